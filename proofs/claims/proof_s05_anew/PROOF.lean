import PyProof.Rows.All
import Wide.All
import OpenK.AllK
import Wide.FinOn
import PyProof.EqAt
import PyProof.EqKinds
import PyProof.TupleCall
import KE.BitLaws
import Open.SpecLaws
import KE.OsHead
import KE.OsGo
import PySem.Challenge.RW_soundkeeping_s05_anew
set_option Elab.async false
set_option linter.all false
set_option maxRecDepth 100000
namespace L2
open PySem PySem.Spec PyProof.Rows
abbrev Key := Sum Int Str
def keyIs : Key → Value → Bool
  | .inl k, v => Value.isInt k v
  | .inr x, v => Value.isStrOf x v
def keyH (w : World) : Key → Int
  | .inl k => hashInt k
  | .inr x => hashStr w x
theorem keyIs_shape : ∀ {k : Key} {v : Value}, keyIs k v = true → (∃ i t, k = Sum.inl i ∧ v = Value.int i t) ∨ (∃ x t, k = Sum.inr x ∧ v = Value.str x t)
  | .inl i, v, h => by
    obtain ⟨t, e⟩ := Value.isInt_shape (k := i) (v := v) h
    exact .inl ⟨i, t, rfl, e⟩
  | .inr x, v, h => by
    obtain ⟨t, e⟩ := Value.isStrOf_shape (x := x) (v := v) h
    exact .inr ⟨x, t, rfl, e⟩
theorem key_ll (a b : Int) : decide ((Sum.inl a : Key) = Sum.inl b) = (a == b) := by
  by_cases e : a = b
  · subst e; simp
  · have h : ¬ (Sum.inl a : Key) = Sum.inl b := fun q => e (Sum.inl.inj q)
    rw [decide_eq_false h]
    exact (beq_eq_false_iff_ne.mpr e).symm
theorem key_rr (a b : Str) : decide ((Sum.inr a : Key) = Sum.inr b) = decide (a = b) := by
  by_cases e : a = b
  · subst e; simp
  · have h : ¬ (Sum.inr a : Key) = Sum.inr b := fun q => e (Sum.inr.inj q)
    rw [decide_eq_false h, decide_eq_false e]
theorem key_lr (a : Int) (b : Str) : decide ((Sum.inl a : Key) = Sum.inr b) = false := decide_eq_false (fun q => nomatch q)
theorem key_rl (a : Str) (b : Int) : decide ((Sum.inr a : Key) = Sum.inl b) = false := decide_eq_false (fun q => nomatch q)
def mixKind (prog : Program) (w : World) : PySem.KeyKind prog w Key where
  is := keyIs
  hash := keyH w
  inj := fun v a b ha hb => by
    rcases keyIs_shape ha with ⟨i, t, rfl, rfl⟩ | ⟨x, t, rfl, rfl⟩
    · rcases keyIs_shape hb with ⟨j, u, rfl, e⟩ | ⟨y, u, rfl, e⟩
      · injection e with e1 _; rw [e1]
      · exact nomatch e
    · rcases keyIs_shape hb with ⟨j, u, rfl, e⟩ | ⟨y, u, rfl, e⟩
      · exact nomatch e
      · injection e with e1 _; rw [e1]
  byValue := fun k v h => by
    rcases keyIs_shape h with ⟨i, t, rfl, rfl⟩ | ⟨x, t, rfl, rfl⟩ <;> rfl
  pyHash := fun hv h => by
    rcases keyIs_shape hv with ⟨i, t, rfl, rfl⟩ | ⟨x, t, rfl, rfl⟩
    · exact wpAny_pyHash_int h
    · exact wpAny_pyHash_str h
  eqBool := fun hu hv h => by
    rcases keyIs_shape hu with ⟨i, t, rfl, rfl⟩ | ⟨x, t, rfl, rfl⟩
    · rcases keyIs_shape hv with ⟨j, u, rfl, rfl⟩ | ⟨y, u, rfl, rfl⟩
      · rw [key_ll] at h; exact wpAny_eqBool_int h
      · rw [key_lr] at h; exact SeqAt.EqAt.int_str i t y u _ _ _ _ h
    · rcases keyIs_shape hv with ⟨j, u, rfl, rfl⟩ | ⟨y, u, rfl, rfl⟩
      · rw [key_rl] at h; exact SeqAt.EqAt.str_int x t j u _ _ _ _ h
      · rw [key_rr] at h; exact wpAny_eqBool_str h
  «strs» := fun k x t v h => by
    rcases keyIs_shape h with ⟨i, u, rfl, e⟩ | ⟨y, u, rfl, e⟩
    · exact nomatch e
    · injection e with e1 _
      subst e1
      cases v <;> rfl
end L2
namespace L2
open PySem PySem.Spec PyProof.Rows
inductive V where
  | non | bl (b : Bool) | int (i : Int) | str (x : Str) | byt (b : Array UInt8) | flt (b : UInt64) | ref (a : Addr) | ty (n : String)
  deriving DecidableEq
def RelV : V → Value → Prop
  | .non, u => u = Value.none
  | .bl b, u => u = Value.bool b
  | .int i, u => ∃ t, u = Value.int i t
  | .str x, u => ∃ t, u = Value.str x t
  | .byt b, u => ∃ t, u = Value.bytes b t
  | .flt b, u => ∃ t, u = Value.float b t
  | .ref a, u => u = Value.ref a
  | .ty n, u => u = Value.type n
abbrev Vals : List V → List Value → Prop := Paired RelV
theorem Vals.length {xs : List V} {us : List Value} (r : Vals xs us) : xs.length = us.length := Paired.length r
theorem Vals.get : ∀ {xs : List V} {us : List Value} {i : Nat} {x : V}, Vals xs us → xs[i]? = some x → ∃ u, us[i]? = some u ∧ RelV x u
  | _, _, _, _, .nil, e => by simp at e
  | _, _, 0, _, .cons r _, e => by simp at e; subst e; exact ⟨_, rfl, r⟩
  | _, _, i + 1, x, .cons _ t, e => by
    obtain ⟨u, h1, h2⟩ := Vals.get (i := i) (x := x) t (by simpa using e)
    exact ⟨u, by simpa using h1, h2⟩
theorem Vals.set {x : V} {u : Value} (r : RelV x u) : ∀ {xs : List V} {us : List Value} (i : Nat), Vals xs us → Vals (xs.set i x) (us.set i u)
  | _, _, _, .nil => .nil
  | _, _, 0, .cons _ t => .cons r t
  | _, _, i + 1, .cons q t => .cons q (Vals.set r i t)
theorem Vals.append : ∀ {xs ys : List V} {us ws : List Value}, Vals xs us → Vals ys ws → Vals (xs ++ ys) (us ++ ws)
  | _, _, _, _, .nil, s => s
  | _, _, _, _, .cons r t, s => .cons r (Vals.append t s)
theorem Vals.take : ∀ {xs : List V} {us : List Value} (n : Nat), Vals xs us → Vals (xs.take n) (us.take n)
  | _, _, 0, _ => .nil
  | _, _, _ + 1, .nil => .nil
  | _, _, n + 1, .cons r t => .cons r (Vals.take n t)
theorem Vals.drop : ∀ {xs : List V} {us : List Value} (n : Nat), Vals xs us → Vals (xs.drop n) (us.drop n)
  | _, _, 0, r => r
  | _, _, _ + 1, .nil => .nil
  | _, _, n + 1, .cons _ t => Vals.drop n t
def RelO : Option V → Option Value → Prop
  | some v, some u => RelV v u
  | none, none => True
  | _, _ => False
def KV {κ : Type} : List (κ × V) → List (κ × Value) → Prop := Paired fun (p : κ × V) (q : κ × Value) => p.1 = q.1 ∧ RelV p.2 q.2
def kV : Key → V
  | .inl i => .int i
  | .inr x => .str x
inductive HO where
  | lst (xs : List V)
  | tup (xs : List V)
  | dK (kvs : List (Key × V)) | dT (kvs : List (List Key × V))
  | set (S : Int → Bool) (n : Nat)
  | ins (C dx : Addr) (fs : List (Str × V))
  | own (x : Addr)
  | xd (fs : List (Str × V))
  | met (f x : Addr)
  | rng (lo hi : Int)
  | frz (o : Obj) (u : HO)
  | tbl (ps : Array Value)
  | ext (φ : Heap → Prop)
abbrev Hp := Addr → Option HO
def upd (H : Hp) (a : Addr) (o : HO) : Hp := fun b => if b = a then some o else H b
theorem upd_same {H : Hp} {a : Addr} {o : HO} : upd H a o a = some o := by unfold upd; rw [if_pos rfl]
theorem upd_ne {H : Hp} {a b : Addr} {o : HO} (h : b ≠ a) : upd H a o b = H b := by unfold upd; rw [if_neg h]
theorem upd_upd {H : Hp} {a : Addr} {o u : HO} : upd (upd H a o) a u = upd H a u := by
  funext b; unfold upd; split <;> rfl
theorem ne_of {H : Hp} {a b : Addr} {o u : HO} (h : H a = some o) (h' : H b = some u) (d : o ≠ u) : a ≠ b := by
  intro e; subst e; rw [h] at h'; exact d (Option.some.inj h')
theorem ne_of_none {H : Hp} {a b : Addr} {o : HO} (h : H a = some o) (h' : H b = none) : a ≠ b := by
  intro e; subst e; rw [h] at h'; cases h'
section
variable (P : Program) (w : World)
def ObjOk (H : Hp) (h : Heap) (a : Addr) : HO → Prop
  | .lst xs => xs.length ≤ sizeLine ∧ ∃ (its : List Value) (n : Nat), Vals xs its ∧ h.get? a = some { cls := .type "list", data := .seq its.toArray n }
  | .tup xs => xs.length ≤ sizeLine ∧ ∃ its : List Value, Vals xs its ∧ IsTup h a its.toArray
  | .dK kvs => kvs.length ≤ sizeLine ∧ (a == sysModules) = false ∧ ∃ vs, KV kvs vs ∧ h.DictOf (mixKind P w) a vs
  | .dT kvs => kvs.length ≤ sizeLine ∧ (a == sysModules) = false ∧ ∃ xs : List (List Key × Addr × Value),
      Paired (fun (p : List Key × V) (q : List Key × Addr × Value) => p.1 = q.1 ∧ H q.2.1 = some (.tup (p.1.map kV)) ∧ RelV p.2 q.2.2) kvs xs ∧
      ∃ o es ep, h.get? a = some o ∧ o.ExactDict ∧ o.data = .dict es ep ∧ es.toList = xs.map (entryOfKey (tupleKind (mixKind P w))) ∧ (xs.map (·.1)).Nodup
  | .set S n => h.SetOf (intKind P w) a S n
  | .ins C dx fs => H dx = some (.own a) ∧ fs.length ≤ 1000 ∧ dx ≠ a ∧ h.get? a = some (PySem.W.instObj C dx) ∧
      ∃ mA, h.Ns1 dx mA ∧ (∀ f, RelO (fs.lookup f) (mA f)) ∧ PySem.Within mA (fs.map (·.1))
  | .own _ => ∃ o, h.get? a = some o
  | .xd fs => ∃ mA, h.Ns1 a mA ∧ ∀ f, RelO (fs.lookup f) (mA f)
  | .rng lo hi => ∃ t u v, h.get? a = some { cls := .type "range", data := .fields #[.int lo t, .int hi u, .int 1 v] }
  | .frz o u => h.get? a = some o ∧ ObjOk H h a u
  | .tbl ps => h.get? a = some { cls := .none, data := .fields ps }
  | .met f x => h.get? a = some (PySem.W.methodObj (.ref f) (.ref x))
  | .ext φ => φ h ∧ (∃ o, h.get? a = some o) ∧ ∀ h1 h2 : Heap, φ h1 → (∀ o, h1.get? a = some o → h2.get? a = some o) → φ h2
def HOk (H : Hp) (h : Heap) : Prop := ∀ a o, H a = some o → ObjOk P w H h a o
end
section
variable {P : Program} {w : World} {H H' : Hp} {h h' : Heap} {a : Addr} {o : HO}
theorem ObjOk.lt (x : ObjOk P w H h a o) : a < h.objs.size := by
  cases o with
  | lst xs => obtain ⟨_, _, _, _, e⟩ := x; exact Heap.lt_size e
  | tup xs => obtain ⟨_, _, _, p⟩ := x; exact p.lt
  | dK kvs => obtain ⟨_, _, _, _, o, _, _, e, _⟩ := x; exact Heap.lt_size e
  | dT kvs => obtain ⟨_, _, _, _, o, _, _, e, _⟩ := x; exact Heap.lt_size e
  | set S n => obtain ⟨o, _, _, _, e, _⟩ := x; exact Heap.lt_size e
  | ins C dx fs => obtain ⟨_, _, _, e, _⟩ := x; exact Heap.lt_size e
  | own y => obtain ⟨_, e⟩ := x; exact Heap.lt_size e
  | xd fs => obtain ⟨_, ⟨_, _, _, e, _⟩, _⟩ := x; exact Heap.lt_size e
  | rng lo hi => obtain ⟨_, _, _, e⟩ := x; exact Heap.lt_size e
  | frz ob u => obtain ⟨e, _⟩ := x; exact Heap.lt_size e
  | tbl ps => exact Heap.lt_size (show h.get? a = some _ from x)
  | met f y => exact Heap.lt_size (show h.get? a = some _ from x)
  | ext φ => obtain ⟨_, ⟨_, e⟩, _⟩ := x; exact Heap.lt_size e
theorem Paired.mapP {α β : Type} {F G : α → β → Prop} : ∀ {l₁ : List α} {l₂ : List β}, Paired F l₁ l₂ → (∀ a b, F a b → G a b) → Paired G l₁ l₂
  | _, _, .nil, _ => .nil
  | _, _, .cons r t, f => .cons (f _ _ r) (Paired.mapP t f)
theorem ObjOk.stay (x : ObjOk P w H h a o) (k : ∀ b u, (b = a ∨ H b = some (.own a)) → h.get? b = some u → h'.get? b = some u)
    (ho : ∀ b, H b = some (.own a) → H' b = some (.own a)) (ht : ∀ b xs, H b = some (.tup xs) → H' b = some (.tup xs)) : ObjOk P w H' h' a o := by
  induction o with
  | lst xs => obtain ⟨z, its, n, r, e⟩ := x; exact ⟨z, its, n, r, k _ _ (.inl rfl) e⟩
  | tup xs => obtain ⟨z, its, r, ob, e, c⟩ := x; exact ⟨z, its, r, ob, k _ _ (.inl rfl) e, c⟩
  | dK kvs => obtain ⟨z, y, vs, r, ob, es, ep, e, c⟩ := x; exact ⟨z, y, vs, r, ob, es, ep, k _ _ (.inl rfl) e, c⟩
  | dT kvs =>
    obtain ⟨z, y, xs, r, ob, es, ep, e, c⟩ := x
    exact ⟨z, y, xs, Paired.mapP r fun p q z => ⟨z.1, ht _ _ z.2.1, z.2.2⟩, ob, es, ep, k _ _ (.inl rfl) e, c⟩
  | set S n => obtain ⟨ob, es, ep, t, e, c⟩ := x; exact ⟨ob, es, ep, t, k _ _ (.inl rfl) e, c⟩
  | ins C dx fs =>
    obtain ⟨d, z, ne, e, mA, ⟨od, es, ep, e2, c⟩, r⟩ := x
    exact ⟨ho _ d, z, ne, k _ _ (.inl rfl) e, mA, ⟨od, es, ep, k _ _ (.inr d) e2, c⟩, r⟩
  | own y => obtain ⟨ob, e⟩ := x; exact ⟨ob, k _ _ (.inl rfl) e⟩
  | xd fs => obtain ⟨mA, ⟨od, es, ep, e, c⟩, r⟩ := x; exact ⟨mA, ⟨od, es, ep, k _ _ (.inl rfl) e, c⟩, r⟩
  | rng lo hi => obtain ⟨t, u, v, e⟩ := x; exact ⟨t, u, v, k _ _ (.inl rfl) e⟩
  | frz ob u ih => obtain ⟨e, q⟩ := x; exact ⟨k _ _ (.inl rfl) e, ih q⟩
  | tbl ps =>
    have e : h.get? a = some { cls := .none, data := .fields ps } := x
    show h'.get? a = some { cls := .none, data := .fields ps }
    exact k a _ (.inl rfl) e
  | met f y =>
    have e : h.get? a = some (PySem.W.methodObj (.ref f) (.ref y)) := x
    show h'.get? a = some (PySem.W.methodObj (.ref f) (.ref y))
    exact k a _ (.inl rfl) e
  | ext φ => obtain ⟨p, ⟨o, e⟩, st⟩ := x; exact ⟨st _ _ p fun o q => k _ _ (.inl rfl) q, ⟨o, k _ _ (.inl rfl) e⟩, st⟩
theorem HOk.lt (x : HOk P w H h) (e : H a = some o) : a < h.objs.size := (x a o e).lt
theorem HOk.fresh (x : HOk P w H h) (e : h.objs.size ≤ a) : H a = none := by
  cases q : H a with
  | none => rfl
  | some u => exact absurd (Nat.lt_of_lt_of_le (x.lt q) e) (Nat.lt_irrefl _)
theorem HOk.kept (x : HOk P w H h) (k : ∀ b u, h.get? b = some u → h'.get? b = some u) : HOk P w H h' := fun a o e =>
  (x a o e).stay (fun b u _ q => k b u q) (fun _ q => q) fun _ _ q => q
theorem HOk.laid (x : HOk P w H h) (k : ∀ b u, h.get? b = some u → h'.get? b = some u) (hp : h.objs.size ≤ a) (new : ObjOk P w (upd H a o) h' a o) : HOk P w (upd H a o) h' := fun b u e => by
  have hn := x.fresh hp
  by_cases hb : b = a
  · subst hb; rw [upd_same] at e; cases e; exact new
  · rw [upd_ne hb] at e
    exact (x b u e).stay (fun c v _ q => k c v q) (fun c q => by rw [upd_ne (ne_of_none q hn)]; exact q) fun c xs q => by rw [upd_ne (ne_of_none q hn)]; exact q
end
def Rd (H : Hp) (a : Addr) (u : HO) : Prop := H a = some u ∨ ∃ o, H a = some (.frz o u)
theorem Rd.ok {P : Program} {w : World} {H : Hp} {h : Heap} {a : Addr} {u : HO} (r : Rd H a u) (x : HOk P w H h) : ObjOk P w H h a u := by
  rcases r with r | ⟨o, r⟩
  · exact x a u r
  · obtain ⟨_, q⟩ := x a _ r
    exact q
def Mut : Option HO → Prop
  | some (.lst _) => True
  | some (.dK _) => True
  | some (.dT _) => True
  | some (.set _ _) => True
  | some (.ins _ _ _) => True
  | some (.ext _) => True
  | _ => False
section
variable {P : Program} {w : World} {H : Hp} {h h' : Heap} {x e : Addr} {o' : HO}
theorem HOk.write (ok : HOk P w H h) (mu : Mut (H x)) (he : e = x ∨ H e = some (.own x)) (k : ∀ b u, b ≠ e → h.get? b = some u → h'.get? b = some u) (heo : ∃ u, h'.get? e = some u)
    (new : ObjOk P w (upd H x o') h' x o') : HOk P w (upd H x o') h' := fun b u q => by
  have nown : ∀ c y, H c = some (.own y) → c ≠ x := fun c y r z => by subst z; rw [r] at mu; exact mu
  have ntup : ∀ c xs, H c = some (.tup xs) → c ≠ x := fun c xs r z => by subst z; rw [r] at mu; exact mu
  by_cases hb : b = x
  · subst hb; rw [upd_same] at q; cases q; exact new
  · rw [upd_ne hb] at q
    by_cases hbe : b = e
    · have q' : H b = some (.own x) := by
        rcases he with z | z
        · exact absurd (hbe.trans z) hb
        · rw [hbe]; exact z
      rw [q] at q'; cases q'
      obtain ⟨v, hv⟩ := heo
      exact ⟨v, by rw [hbe]; exact hv⟩
    · refine (ok b u q).stay (fun c v hc r => k c v ?_ r) (fun c r => by rw [upd_ne (nown c b r)]; exact r) fun c xs r => by rw [upd_ne (ntup c xs r)]; exact r
      rcases hc with rfl | hc
      · exact hbe
      · rintro rfl
        rcases he with z | z
        · exact nown c b hc z
        · rw [hc] at z; cases z; exact hb rfl
end
structure Un (fs ex : List Addr) (H H' : Hp) (h h' : Heap) : Prop where
  keep : ∀ b o, h.get? b = some o → H b = none → b ∉ fs → b ∉ ex → h'.get? b = some o
  slot : ∀ b o, h.get? b = some o → H b = none → b ∈ fs → b ∉ ex → ∃ sl, h'.get? b = some { o with slots := sl }
  free : ∀ b o, h.get? b = some o → H b = none → b ∉ ex → H' b = none
  there : ∀ b o, h.get? b = some o → b ∉ ex → ∃ o', h'.get? b = some o'
  tups : ∀ b xs, H b = some (.tup xs) → H' b = some (.tup xs)
  frzs : ∀ b o u, H b = some (.frz o u) → H' b = some (.frz o u)
  tbls : ∀ b ps, H b = some (.tbl ps) → ∃ more, H' b = some (.tbl (ps ++ more))
section
variable {fs fs' ex ex' : List Addr} {H H1 H2 : Hp} {h h1 h2 h' : Heap} {a x e : Addr} {o : HO}
theorem Un.any (u : Un fs ex H H1 h h1) {b : Addr} {ob : Obj} (q : h.get? b = some ob) (n : H b = none) (hx : b ∉ ex) : ∃ sl, h1.get? b = some { ob with slots := sl } := by
  by_cases hb : b ∈ fs
  · exact u.slot b ob q n hb hx
  · exact ⟨ob.slots, u.keep b ob q n hb hx⟩
theorem Un.kept (k : ∀ b u, h.get? b = some u → h'.get? b = some u) : Un fs ex H H h h' :=
  ⟨fun b ob q _ _ _ => k b ob q, fun b ob q _ _ _ => ⟨ob.slots, k b ob q⟩, fun _ _ _ n _ => n, fun b ob q _ => ⟨ob, k b ob q⟩, fun _ _ q => q, fun _ _ _ q => q, fun _ ps q => ⟨#[], by rw [q]; simp⟩⟩
theorem Un.refl : Un fs ex H H h h := Un.kept fun _ _ q => q
theorem Un.laid (k : ∀ b u, h.get? b = some u → h'.get? b = some u) (hp : h.objs.size ≤ a) (hn : H a = none) : Un fs ex H (upd H a o) h h' where
  keep := fun b u q _ _ _ => k b u q
  slot := fun b u q _ _ _ => ⟨u.slots, k b u q⟩
  free := fun b u q n _ => by rw [upd_ne (Nat.ne_of_lt (Nat.lt_of_lt_of_le (Heap.lt_size q) hp))]; exact n
  there := fun b u q _ => ⟨u, k b u q⟩
  tups := fun b xs q => by rw [upd_ne (ne_of_none q hn)]; exact q
  frzs := fun b u xs q => by rw [upd_ne (ne_of_none q hn)]; exact q
  tbls := fun b ps q => ⟨#[], by rw [upd_ne (ne_of_none q hn), q]; simp⟩
theorem Un.write (mu : Mut (H x)) (he : e = x ∨ H e = some (.own x)) (k : ∀ b u, b ≠ e → h.get? b = some u → h'.get? b = some u) (heo : ∃ u, h'.get? e = some u) : Un fs ex H (upd H x o) h h' := by
  have hx : ∀ b, H b = none → b ≠ x := fun b n z => by subst z; rw [n] at mu; exact mu
  have hb : ∀ b, H b = none → b ≠ e := fun b n z => by
    subst z
    rcases he with r | r
    · exact hx b n r
    · rw [n] at r; cases r
  have hm : ∀ b u, H b = some u → ¬ Mut (some u) → b ≠ x := fun b u q nm z => by subst z; rw [q] at mu; exact nm mu
  refine ⟨fun b u q n _ _ => k b u (hb b n) q, fun b u q n _ _ => ⟨u.slots, k b u (hb b n) q⟩, fun b u q n _ => by rw [upd_ne (hx b n)]; exact n, fun b u q _ => ?_,
    fun b xs q => by rw [upd_ne (hm b _ q fun z => z)]; exact q, fun b u xs q => by rw [upd_ne (hm b _ q fun z => z)]; exact q, fun b ps q => ⟨#[], by rw [upd_ne (hm b _ q fun z => z), q]; simp⟩⟩
  by_cases hbe : b = e
  · subst hbe; exact heo
  · exact ⟨u, k b u hbe q⟩
end
def trk (h : Heap) (H : Hp) : List Addr := (List.range h.objs.size).filter fun a => (H a).isSome
def hidT (h : Heap) (H : Hp) : Heap := PySem.W.hideAll h (trk h H)
theorem hidT_size (h : Heap) (H : Hp) : (hidT h H).objs.size = h.objs.size := PySem.W.hideAll_size _ _
theorem hidT_get {h : Heap} {H : Hp} {b : Addr} {o : Obj} (e : h.get? b = some o) (n : H b = none) : (hidT h H).get? b = some o :=
  PySem.W.hideAll_get _ e fun hm => by
    have q : (H b).isSome = true := (List.mem_filter.mp hm).2
    rw [n] at q; simp at q
theorem of_hidT {h : Heap} {H : Hp} {b : Addr} {o : Obj} (e : (hidT h H).get? b = some o) : h.get? b = some o ∧ H b = none := by
  have e' : h.get? b = some o := PySem.W.of_hideAll (trk h H) e
  refine ⟨e', ?_⟩
  cases q : H b with
  | none => rfl
  | some x =>
    have hm : b ∈ trk h H := List.mem_filter.mpr ⟨List.mem_range.mpr (Heap.lt_size e'), by simp [q]⟩
    have z : (hidT h H).get? b = none := PySem.W.hideAll_none (trk h H) hm
    rw [z] at e; cases e
end L2
namespace L2
open PySem PySem.Spec PyProof.Rows
structure Mod (K : PySem.W.Frag) (mg : Str → Option Value) (base : Heap) : Prop where
  kin : K.In base
  glob : base.Ns mainGlobals mg
  blt : ∃ mb, base.Ns builtinsNs mb ∧ ∀ x : Str, x ≠ "__name__" → mb x = bootBuiltins x
  nolimit : base.NoLimit
structure Cx where
  prog : Program
  w : World
  K : PySem.W.Frag
  mg : Str → Option Value
  base : Heap
  A : Around
  N : List Str
  s_0 : Shared
  H_0 : Hp
  env : Env
  outer : List Env
  stack : List Env
  ex : List Addr
  fn : Str → Bool
  calm : Bool
  pn : List (Addr × Obj)
  xe : Value → Shared → Prop
def frs (l : List Env) : List Addr := l.filterMap (·.frame)
abbrev Cx.fs (X : Cx) : List Addr := frs X.outer
def Vis (sc : Scope) (x : Str) : Prop := sc.names.lookup x = some .local ∨ sc.names.lookup x = some .cell ∨ sc.names.lookup x = some .free
def Loc (sc : Scope) (x : Str) : Prop := sc.names.lookup x = some .local ∨ sc.names.lookup x = some .cell
def Look (env : Env) (h : Heap) (m : Str → Option Value) (x : Str) (u : Value) : Prop :=
  (env.kindOf x = some .local ∧ m x = some u) ∨ ((env.kindOf x = some .cell ∨ env.kindOf x = some .free) ∧ ∃ c, env.cells.lookup x = some c ∧ h.IsCell c (some u))
structure Cx.Ok (X : Cx) : Prop where
  mod : Mod X.K X.mg X.base
  kind : X.env.scope.kind = .function
  glob : X.env.globals = mainGlobals
  blt : X.env.builtins = builtinsNs
  above : X.s_0.heap.objs.size ≤ X.env.locals
  inj : ∀ x y c, X.env.cells.lookup x = some c → X.env.cells.lookup y = some c → x = y
  has : ∀ x, (X.env.kindOf x = some .cell ∨ X.env.kindOf x = some .free) → ∃ c, X.env.cells.lookup x = some c
  cab : ∀ x c, X.fn x = true → X.env.cells.lookup x = some c → X.s_0.heap.objs.size ≤ c
  hd : X.calm = true → X.A.handled = none
  frames : X.A.frames = some X.stack
  stk : X.stack = X.outer ∨ (X.stack = X.env :: X.outer ∧ X.env.frame = some X.env.locals)
  exf : ∀ b ∈ X.ex, b ≠ X.env.locals ∧ ∀ x c, X.env.cells.lookup x = some c → c ≠ b
  bs : ∀ b o, X.base.get? b = some o → X.s_0.heap.get? b = some o ∧ X.H_0 b = none
  bsz : X.base.objs.size ≤ X.s_0.heap.objs.size
  noex : ∀ b o, X.base.get? b = some o → b ∉ X.ex
  exfs : ∀ b ∈ X.ex, b ∉ X.fs
  funs : X.s_0.heap.FunFrames X.base X.outer
  frf : ∀ b ∈ X.fs, X.H_0 b = none
structure Inv (X : Cx) (pins : List (Addr × Obj)) (σ : List (Option V)) (H : Hp) (s : Shared) : Prop where
  ok : X.Ok
  os : s.os = X.s_0.os
  bare : AllBare s.gens
  base : Un X.fs X.ex X.H_0 H X.s_0.heap s.heap
  loc : ∃ m, s.heap.Ns X.env.locals m ∧ ∀ (i : Nat) (x : Str) (v : V), X.N[i]? = some x → σ[i]? = some (some v) → Vis X.env.scope x → ∃ u, RelV v u ∧ Look X.env s.heap m x u
  cell : ∀ x c, X.env.cells.lookup x = some c → ∃ v, s.heap.IsCell c v
  free : H X.env.locals = none
  freeC : ∀ x c, X.env.cells.lookup x = some c → H c = none
  pin : ∀ p ∈ X.pn ++ pins, s.heap.get? p.1 = some p.2 ∧ H p.1 = none ∧ p.1 ≠ X.env.locals ∧ p.1 ∉ X.fs ∧ ∀ v, p.2.data ≠ .cell v
  hok : HOk X.prog X.w H s.heap
  len : σ.length = X.N.length
section
variable {X : Cx} {pins : List (Addr × Obj)} {σ : List (Option V)} {H H' : Hp} {s : Shared} {h' : Heap}
theorem Cx.Ok.nofr (ok : X.Ok) {b : Addr} {o : Obj} (e : X.base.get? b = some o) : b ∉ X.fs := fun hb => by
  have := (ok.funs.mem hb).1
  rw [e] at this; cases this
theorem Inv.bs (I : Inv X pins σ H s) : ∀ b o, X.base.get? b = some o → s.heap.get? b = some o ∧ H b = none := fun b o e =>
  ⟨I.base.keep b o (I.ok.bs b o e).1 (I.ok.bs b o e).2 (I.ok.nofr e) (I.ok.noex b o e), I.base.free b o (I.ok.bs b o e).1 (I.ok.bs b o e).2 (I.ok.noex b o e)⟩
theorem Inv.bk (I : Inv X pins σ H s) : ∀ b o, X.base.get? b = some o → s.heap.get? b = some o := fun b o e => (I.bs b o e).1
theorem Inv.mod (I : Inv X pins σ H s) : Mod X.K X.mg X.base := I.ok.mod
theorem Inv.kIn (I : Inv X pins σ H s) : X.K.In s.heap := I.ok.mod.kin.keeps I.bk
theorem Inv.lt (I : Inv X pins σ H s) : X.env.locals < s.heap.objs.size := let ⟨_, hn, _⟩ := I.loc; hn.lt
theorem Inv.sz (I : Inv X pins σ H s) : X.s_0.heap.objs.size ≤ s.heap.objs.size := Nat.le_trans I.ok.above (Nat.le_of_lt I.lt)
theorem Inv.nofs (I : Inv X pins σ H s) {a : Addr} (h : s.heap.objs.size ≤ a) : a ∉ X.fs := fun hb => by
  obtain ⟨_, o, ho, _⟩ := I.ok.funs.mem hb
  exact absurd (Nat.lt_of_lt_of_le (Heap.lt_size ho) (Nat.le_trans I.sz h)) (Nat.lt_irrefl _)
theorem Inv.cne (I : Inv X pins σ H s) : ∀ x c, X.env.cells.lookup x = some c → c ≠ X.env.locals := fun x c e z => by
  obtain ⟨v, o, ho, hd⟩ := I.cell x c e
  obtain ⟨m, ⟨o', es, ep, ho', hd', _⟩, _⟩ := I.loc
  rw [z, ho'] at ho; cases ho; rw [hd'] at hd; cases hd
theorem Inv.funs (I : Inv X pins σ H s) : s.heap.FunFrames X.base X.outer := by
  have all : ∀ (l : List Env), (∀ b ∈ frs l, b ∈ X.fs) → X.s_0.heap.FunFrames X.base l → s.heap.FunFrames X.base l := by
    intro l
    induction l with
    | nil => intro _ _; trivial
    | cons env r ih =>
      intro hs hl
      obtain ⟨hk, ⟨L, o, hf, hn, ho, hd⟩, hr⟩ := hl
      have hL : L ∈ X.fs := hs L (by unfold frs; rw [List.filterMap_cons, hf]; exact List.mem_cons_self)
      obtain ⟨sl, e⟩ := I.base.slot L o ho (I.ok.frf L hL) hL fun z => I.ok.exfs L z hL
      exact ⟨hk, ⟨L, _, hf, hn, e, hd⟩, ih (fun b hb => hs b (by unfold frs; rw [List.filterMap_cons, hf]; exact List.mem_cons_of_mem _ hb)) hr⟩
  exact all X.outer (fun _ hb => hb) I.ok.funs
theorem Inv.stack (I : Inv X pins σ H s) : s.heap.FunFrames X.base X.stack := by
  rcases I.ok.stk with e | ⟨e, hf⟩
  · rw [e]; exact I.funs
  · rw [e]
    obtain ⟨m, hn, _⟩ := I.loc
    refine .cons (by rw [I.ok.kind]; decide) hf hn ?_ I.funs
    exact Heap.get?_none_of_le (Nat.le_trans I.ok.bsz I.ok.above)
theorem Inv.stkSub (I : Inv X pins σ H s) : ∀ b ∈ frs X.stack, b ∈ X.env.locals :: X.fs := fun b hb => by
  rcases I.ok.stk with e | ⟨e, hf⟩
  · rw [e] at hb; exact List.mem_cons_of_mem _ hb
  · rw [e] at hb
    unfold frs at hb
    rw [List.filterMap_cons, hf] at hb
    exact hb
theorem Inv.stkFree (I : Inv X pins σ H s) : ∀ b ∈ frs X.stack, H b = none := fun b hb => by
  rcases List.mem_cons.mp (I.stkSub b hb) with e | hb
  · rw [e]; exact I.free
  · obtain ⟨_, o, ho, _⟩ := I.ok.funs.mem hb
    exact I.base.free b o ho (I.ok.frf b hb) fun z => I.ok.exfs b z hb
theorem Inv.step {g' : Array GenState} {t' : Nat} {d' : Drawn} {ch : List Addr} (I : Inv X pins σ H s)
    (hch : ∀ b ∈ ch, (b ∈ X.ex ∨ X.s_0.heap.objs.size ≤ b) ∧ b ≠ X.env.locals ∧ (∀ x c, X.env.cells.lookup x = some c → c ≠ b) ∧ ∀ p ∈ X.pn ++ pins, p.1 ≠ b)
    (keep : ∀ b o, b ≠ X.env.locals → b ∉ X.fs → b ∉ ch → s.heap.get? b = some o → H b = none → h'.get? b = some o)
    (slot : ∀ b o, b ≠ X.env.locals → b ∈ X.fs → b ∉ ch → s.heap.get? b = some o → H b = none → ∃ sl, h'.get? b = some { o with slots := sl }) (free : ∀ b o, b ∉ ch → s.heap.get? b = some o → H b = none → H' b = none)
    (there : ∀ b o, b ∉ ch → s.heap.get? b = some o → ∃ o', h'.get? b = some o')
    (tups : ∀ b xs, H b = some (.tup xs) → H' b = some (.tup xs)) (frzs : ∀ b o u, H b = some (.frz o u) → H' b = some (.frz o u)) (tbls : ∀ b ps, H b = some (.tbl ps) → ∃ more, H' b = some (.tbl (ps ++ more)))
    (ns : ∀ m, s.heap.Ns X.env.locals m → h'.Ns X.env.locals m) (hok : HOk X.prog X.w H' h') (hg : AllBare g') :
    Inv X pins σ H' { s with heap := h', gens := g', drawn := d', toks := t' } := by
  have neL : ∀ b o, X.s_0.heap.get? b = some o → b ≠ X.env.locals := fun b o e => Nat.ne_of_lt (Nat.lt_of_lt_of_le (Heap.lt_size e) I.ok.above)
  have neC : ∀ b o, X.s_0.heap.get? b = some o → b ∉ X.ex → b ∉ ch := fun b o e hx hb => by
    rcases (hch b hb).1 with z | z
    · exact hx z
    · exact absurd (Nat.lt_of_lt_of_le (Heap.lt_size e) z) (Nat.lt_irrefl _)
  have cellK : ∀ x c, X.env.cells.lookup x = some c → ∀ v, s.heap.IsCell c v → h'.IsCell c v := fun x c e v ⟨o, ho, hd⟩ => by
    have nch : c ∉ ch := fun z => (hch c z).2.2.1 x c e rfl
    by_cases hc : c ∈ X.fs
    · obtain ⟨sl, q⟩ := slot c o (I.cne x c e) hc nch ho (I.freeC x c e)
      exact ⟨_, q, hd⟩
    · exact ⟨o, keep c o (I.cne x c e) hc nch ho (I.freeC x c e), hd⟩
  refine ⟨I.ok, I.os, hg, ⟨fun b o e n hb hx => ?_, fun b o e n hb hx => ?_, fun b o e n hx => ?_, fun b o e hx => ?_, fun b xs e => tups b xs (I.base.tups b xs e), fun b o xs e => frzs b o xs (I.base.frzs b o xs e), fun b ps e => ?_⟩, ?_, fun x c e => ?_, ?_, fun x c e => ?_, fun p hp => ?_, hok, I.len⟩
  · exact keep b o (neL b o e) hb (neC b o e hx) (I.base.keep b o e n hb hx) (I.base.free b o e n hx)
  · obtain ⟨sl, e1⟩ := I.base.slot b o e n hb hx
    obtain ⟨sl', e2⟩ := slot b _ (neL b o e) hb (neC b o e hx) e1 (I.base.free b o e n hx)
    exact ⟨sl', e2⟩
  · obtain ⟨o', e1⟩ := I.base.there b o e hx
    exact free b o' (neC b o e hx) e1 (I.base.free b o e n hx)
  · obtain ⟨o', e1⟩ := I.base.there b o e hx
    exact there b o' (neC b o e hx) e1
  · obtain ⟨m1, e1⟩ := I.base.tbls b ps e
    obtain ⟨m2, e2⟩ := tbls b _ e1
    exact ⟨m1 ++ m2, by rw [e2, Array.append_assoc]⟩
  · obtain ⟨m, hn, hl⟩ := I.loc
    refine ⟨m, ns m hn, fun i x v e1 e2 e3 => ?_⟩
    obtain ⟨u, r, l⟩ := hl i x v e1 e2 e3
    refine ⟨u, r, ?_⟩
    rcases l with l | ⟨k, c, e, z⟩
    · exact .inl l
    · exact .inr ⟨k, c, e, cellK x c e _ z⟩
  · obtain ⟨v, z⟩ := I.cell x c e
    exact ⟨v, cellK x c e v z⟩
  · obtain ⟨m, ⟨o, _, _, ho, _⟩, _⟩ := I.loc
    exact free _ o (fun z => (hch _ z).2.1 rfl) ho I.free
  · obtain ⟨v, o, ho, hd⟩ := I.cell x c e
    exact free c o (fun z => (hch c z).2.2.1 x c e rfl) ho (I.freeC x c e)
  · obtain ⟨e, n, ne, nf, d⟩ := I.pin p hp
    have nch : p.1 ∉ ch := fun z => (hch p.1 z).2.2.2 p hp rfl
    exact ⟨keep p.1 p.2 ne nf nch e n, free p.1 p.2 nch e n, ne, nf, d⟩
theorem Inv.un {t' : Nat} (I : Inv X pins σ H s) (u : Un X.fs [] H H' s.heap h') (hok : HOk X.prog X.w H' h') : Inv X pins σ H' { s with heap := h', toks := t' } := by
  obtain ⟨m, ⟨o, es, ep, ho, r⟩, _⟩ := id I.loc
  obtain ⟨sl, hL⟩ := u.any ho I.free (by simp)
  exact I.step (g' := s.gens) (d' := s.drawn) (ch := []) (fun _ z => nomatch z) (fun b o _ hb _ e n => u.keep b o e n hb (by simp)) (fun b o _ hb _ e n => u.slot b o e n hb (by simp)) (fun b o _ e n => u.free b o e n (by simp)) (fun b o _ e => u.there b o e (by simp)) u.tups u.frzs u.tbls (fun m' hm => by
    obtain ⟨o', es', ep', ho', r'⟩ := hm
    rw [ho] at ho'; cases ho'
    exact ⟨_, es', ep', hL, r'⟩) hok I.bare
theorem Inv.call {g' : Array GenState} {t' : Nat} {d' : Drawn} {ch : List Addr} (I : Inv X pins σ H s) (u : Un (frs X.stack) ch H H' s.heap h') (hok : HOk X.prog X.w H' h') (hg : AllBare g')
    (hch : ∀ b ∈ ch, (b ∈ X.ex ∨ X.s_0.heap.objs.size ≤ b) ∧ b ≠ X.env.locals ∧ (∀ x c, X.env.cells.lookup x = some c → c ≠ b) ∧ ∀ p ∈ X.pn ++ pins, p.1 ≠ b) :
    Inv X pins σ H' { s with heap := h', gens := g', drawn := d', toks := t' } := by
  obtain ⟨m, ⟨o, es, ep, ho, r⟩, _⟩ := id I.loc
  obtain ⟨sl, hL⟩ := u.any ho I.free fun z => (hch _ z).2.1 rfl
  exact I.step (ch := ch) hch (fun b o hL hb hc e n => u.keep b o e n (fun z => (List.mem_cons.mp (I.stkSub b z)).elim hL hb) hc) (fun b o _ _ hc e n => u.any e n hc) (fun b o hc e n => u.free b o e n hc) (fun b o hc e => u.there b o e hc) u.tups u.frzs u.tbls (fun m' hm => by
    obtain ⟨o', es', ep', ho', r'⟩ := hm
    rw [ho] at ho'; cases ho'
    exact ⟨_, es', ep', hL, r'⟩) hok hg
theorem Inv.turned {t' : Nat} {it : Addr} (I : Inv X pins σ H s) (k : ∀ b o, b ≠ it → s.heap.get? b = some o → h'.get? b = some o) (hn : H it = none) (hL : it ≠ X.env.locals)
    (h1 : it ∈ X.ex ∨ X.s_0.heap.objs.size ≤ it) (h2 : ∀ x c, X.env.cells.lookup x = some c → c ≠ it) (h3 : ∀ p ∈ X.pn ++ pins, p.1 ≠ it) : Inv X pins σ H { s with heap := h', toks := t' } := by
  have nit : ∀ b u, H b = some u → b ≠ it := fun b u e z => by rw [z, hn] at e; cases e
  refine I.step (g' := s.gens) (d' := s.drawn) (ch := [it]) (fun b hb => ?_) (fun b o _ _ hc e _ => k b o (fun z => hc (by simp [z])) e) (fun b o _ _ hc e _ => ⟨o.slots, k b o (fun z => hc (by simp [z])) e⟩) (fun _ _ _ _ n => n)
    (fun b o hc e => ⟨o, k b o (fun z => hc (by simp [z])) e⟩) (fun _ _ e => e) (fun _ _ _ e => e) (fun b ps e => ⟨#[], by rw [e]; simp⟩) (fun m hm => ?_) (fun b u e => ?_) I.bare
  · have e : b = it := by simpa using hb
    subst e
    exact ⟨h1, hL, h2, h3⟩
  · obtain ⟨o, es, ep, ho, r⟩ := hm
    exact ⟨o, es, ep, k _ o (Ne.symm hL) ho, r⟩
  · refine (I.hok b u e).stay (fun c v hc q => k c v ?_ q) (fun _ q => q) fun _ _ q => q
    rcases hc with z | z
    · rw [z]; exact nit b u e
    · exact nit c _ z
theorem Inv.tok (I : Inv X pins σ H s) (t : Nat) : Inv X pins σ H { s with toks := t } := I.un (h' := s.heap) (t' := t) Un.refl I.hok
theorem Inv.kept {t' : Nat} (I : Inv X pins σ H s) (k : ∀ b u, s.heap.get? b = some u → h'.get? b = some u) : Inv X pins σ H { s with heap := h', toks := t' } := I.un (Un.kept k) (I.hok.kept k)
theorem Inv.laid {a : Addr} {o : HO} {t' : Nat} (I : Inv X pins σ H s) (k : ∀ b u, s.heap.get? b = some u → h'.get? b = some u) (hp : s.heap.objs.size ≤ a) (new : ObjOk X.prog X.w (upd H a o) h' a o) :
    Inv X pins σ (upd H a o) { s with heap := h', toks := t' } := I.un (Un.laid k hp (I.hok.fresh hp)) (I.hok.laid k hp new)
theorem Inv.write {x e : Addr} {o : HO} {t' : Nat} (I : Inv X pins σ H s) (mu : Mut (H x)) (he : e = x ∨ H e = some (.own x)) (k : ∀ b u, b ≠ e → s.heap.get? b = some u → h'.get? b = some u) (heo : ∃ u, h'.get? e = some u)
    (new : ObjOk X.prog X.w (upd H x o) h' x o) : Inv X pins σ (upd H x o) { s with heap := h', toks := t' } := I.un (Un.write mu he k heo) (I.hok.write mu he k heo new)
theorem Inv.weak {σ' : List (Option V)} (I : Inv X pins σ H s) (hl : σ'.length = σ.length) (w : ∀ (i : Nat) v, σ'[i]? = some (some v) → σ[i]? = some (some v)) : Inv X pins σ' H s :=
  ⟨I.ok, I.os, I.bare, I.base, let ⟨m, hn, hl'⟩ := I.loc; ⟨m, hn, fun i x v e1 e2 e3 => hl' i x v e1 (w i v e2) e3⟩, I.cell, I.free, I.freeC, I.pin, I.hok, hl.trans I.len⟩
theorem Inv.pins_of {pins' : List (Addr × Obj)} (I : Inv X pins σ H s) (h : ∀ p ∈ pins', s.heap.get? p.1 = some p.2 ∧ H p.1 = none ∧ p.1 ≠ X.env.locals ∧ p.1 ∉ X.fs ∧ ∀ v, p.2.data ≠ .cell v) : Inv X pins' σ H s :=
  ⟨I.ok, I.os, I.bare, I.base, I.loc, I.cell, I.free, I.freeC, fun p hp => (List.mem_append.mp hp).elim (fun z => I.pin p (List.mem_append_left _ z)) (h p), I.hok, I.len⟩
theorem nodup_ix {N : List Str} (hN : N.Nodup) {i j : Nat} {x : Str} (a : N[i]? = some x) (b : N[j]? = some x) : i = j := by
  obtain ⟨h1, e1⟩ := List.getElem?_eq_some_iff.mp a
  obtain ⟨h2, e2⟩ := List.getElem?_eq_some_iff.mp b
  exact (List.getElem_inj hN).mp (e1.trans e2.symm)
theorem store_ok2 {M : Model} {A : Around} {E : Value → Shared → Prop} {i : Nat} {x : Str} {v : V} {u : Value} {Q : Unit → Shared → Prop} (I : Inv X pins σ H s) (hN : X.N.Nodup) (hi : X.N[i]? = some x) (hx : Loc X.env.scope x) (r : RelV v u)
    (h : ∀ s', Inv X pins (σ.set i (some v)) H s' → (∃ a, Heap.SameBut a s.heap s'.heap ∧ (a = X.env.locals ∨ X.env.cells.lookup x = some a)) → Q () s') (hf : X.fn x = true ∨ X.env.scope.names.lookup x = some .local := by first | exact .inl rfl | exact .inr rfl | assumption) : wpAny M A (storeName X.env x u) Q E s := by
  obtain ⟨m, hn, hl⟩ := id I.loc
  have hcls : (X.env.scope.kind == .class || (X.env.scope.kind == .module && X.env.locals != X.env.globals)) = false := by rw [I.ok.kind]; rfl
  have hiσ : i < σ.length := by rw [I.len]; exact (List.getElem?_eq_some_iff.mp hi).1
  have cne := I.cne
  have tracked : ∀ {a : Addr} {h' : Heap}, (∃ o, s.heap.get? a = some o ∧ H a = none) → Heap.SameBut a s.heap h' → HOk X.prog X.w H h' := fun {a h'} ha hs b ob e => by
    obtain ⟨_, _, hfree⟩ := ha
    refine (I.hok b ob e).stay (fun c w' hc q => (hs.2 c ?_).trans q) (fun _ q => q) fun _ _ q => q
    rintro rfl
    rcases hc with rfl | hc
    · rw [hfree] at e; cases e
    · rw [hfree] at hc; cases hc
  rcases hx with hk | hk
  · refine wpAny_storeName_local hk hn (fun h' hn' hs => ?_) hcls
    obtain ⟨oL, _, _, hoL, _⟩ := id hn
    refine h _ ⟨I.ok, I.os, I.bare, ⟨fun b o e n hb hx => ?_, fun b o e n hb hx => ?_, I.base.free, fun b o e hx => ?_, I.base.tups, I.base.frzs, I.base.tbls⟩, ⟨_, hn', fun j y v' e1 e2 e3 => ?_⟩, fun y c e => ?_, I.free, I.freeC, fun p hp => ?_, tracked ⟨oL, hoL, I.free⟩ hs, by simpa using I.len⟩ ⟨_, hs, .inl rfl⟩
    · exact (hs.2 b (Nat.ne_of_lt (Nat.lt_of_lt_of_le (Heap.lt_size e) I.ok.above))).trans (I.base.keep b o e n hb hx)
    · obtain ⟨sl, e1⟩ := I.base.slot b o e n hb hx
      exact ⟨sl, (hs.2 b (Nat.ne_of_lt (Nat.lt_of_lt_of_le (Heap.lt_size e) I.ok.above))).trans e1⟩
    · obtain ⟨o', e1⟩ := I.base.there b o e hx
      exact ⟨o', (hs.2 b (Nat.ne_of_lt (Nat.lt_of_lt_of_le (Heap.lt_size e) I.ok.above))).trans e1⟩
    · by_cases hj : j = i
      · subst hj
        rw [hi] at e1; cases e1
        rw [List.getElem?_set_self hiσ] at e2
        cases e2
        exact ⟨u, r, .inl ⟨hk, by simp⟩⟩
      · rw [List.getElem?_set_ne (Ne.symm hj)] at e2
        obtain ⟨u', r', q⟩ := hl j y v' e1 e2 e3
        refine ⟨u', r', ?_⟩
        rcases q with ⟨k, e⟩ | ⟨k, c, e, z⟩
        · refine .inl ⟨k, ?_⟩
          have : y ≠ x := fun e => hj (nodup_ix hN e1 (e ▸ hi))
          simp [this, e]
        · exact .inr ⟨k, c, e, z.sameBut hs (cne y c e)⟩
    · obtain ⟨w', z⟩ := I.cell y c e
      exact ⟨w', z.sameBut hs (cne y c e)⟩
    · obtain ⟨e, n, ne, nf, d⟩ := I.pin p hp
      exact ⟨(hs.2 p.1 ne).trans e, n, ne, nf, d⟩
  · have hfn : X.fn x = true := by
      rcases hf with z | z
      · exact z
      · rw [z] at hk; cases hk
    obtain ⟨c, hc⟩ := I.ok.has x (.inl hk)
    obtain ⟨w', z⟩ := I.cell x c hc
    refine wpAny_storeName_cell I.ok.kind hk hc z (fun h' hc' hs => ?_)
    obtain ⟨oc, hoc, hocd⟩ := id z
    refine h { s with heap := h' } ⟨I.ok, I.os, I.bare, ⟨fun b o e n hb hx => ?_, fun b o e n hb hx => ?_, I.base.free, fun b o e hx => ?_, I.base.tups, I.base.frzs, I.base.tbls⟩, ⟨m, hn.sameBut hs (Ne.symm (cne x c hc)), fun j y v' e1 e2 e3 => ?_⟩, fun y c' e => ?_, I.free, I.freeC, fun p hp => ?_, tracked ⟨oc, hoc, I.freeC x c hc⟩ hs, by simpa using I.len⟩ ⟨c, hs, .inr hc⟩
    · exact (hs.2 b (Nat.ne_of_lt (Nat.lt_of_lt_of_le (Heap.lt_size e) (I.ok.cab x c hfn hc)))).trans (I.base.keep b o e n hb hx)
    · obtain ⟨sl, e1⟩ := I.base.slot b o e n hb hx
      exact ⟨sl, (hs.2 b (Nat.ne_of_lt (Nat.lt_of_lt_of_le (Heap.lt_size e) (I.ok.cab x c hfn hc)))).trans e1⟩
    · obtain ⟨o', e1⟩ := I.base.there b o e hx
      exact ⟨o', (hs.2 b (Nat.ne_of_lt (Nat.lt_of_lt_of_le (Heap.lt_size e) (I.ok.cab x c hfn hc)))).trans e1⟩
    · by_cases hj : j = i
      · subst hj
        rw [hi] at e1; cases e1
        rw [List.getElem?_set_self hiσ] at e2
        cases e2
        exact ⟨u, r, .inr ⟨.inl hk, c, hc, hc'⟩⟩
      · rw [List.getElem?_set_ne (Ne.symm hj)] at e2
        obtain ⟨u', r', q⟩ := hl j y v' e1 e2 e3
        refine ⟨u', r', ?_⟩
        rcases q with q | ⟨k, c', e, z'⟩
        · exact .inl q
        · refine .inr ⟨k, c', e, z'.sameBut hs ?_⟩
          rintro rfl
          exact hj (nodup_ix hN e1 (I.ok.inj _ _ _ e hc ▸ hi))
    · by_cases hcc : c' = c
      · subst hcc; exact ⟨_, hc'⟩
      · obtain ⟨w2, z2⟩ := I.cell y c' e
        exact ⟨w2, z2.sameBut hs hcc⟩
    · obtain ⟨e, n, ne, nf, d⟩ := I.pin p hp
      refine ⟨(hs.2 p.1 ?_).trans e, n, ne, nf, d⟩
      intro q
      rw [q, hoc] at e
      have q' : oc = p.2 := Option.some.inj e
      exact d w' (by rw [← q']; exact hocd)
theorem store_ok {M : Model} {A : Around} {E : Value → Shared → Prop} {i : Nat} {x : Str} {v : V} {u : Value} {Q : Unit → Shared → Prop} (I : Inv X pins σ H s) (hN : X.N.Nodup) (hi : X.N[i]? = some x) (hx : Loc X.env.scope x) (r : RelV v u)
    (h : ∀ s', Inv X pins (σ.set i (some v)) H s' → Q () s') (hf : X.fn x = true ∨ X.env.scope.names.lookup x = some .local := by first | exact .inl rfl | exact .inr rfl | assumption) : wpAny M A (storeName X.env x u) Q E s :=
  store_ok2 I hN hi hx r (fun s' I' _ => h s' I') hf
theorem Inv.call' {s' : Shared} {ch : List Addr} (I : Inv X pins σ H s) (ho : s'.os = s.os) (u : Un (frs X.stack) ch H H' s.heap s'.heap) (hok : HOk X.prog X.w H' s'.heap) (hg : AllBare s'.gens)
    (hch : ∀ b ∈ ch, (b ∈ X.ex ∨ X.s_0.heap.objs.size ≤ b) ∧ b ≠ X.env.locals ∧ (∀ x c, X.env.cells.lookup x = some c → c ≠ b) ∧ ∀ p ∈ X.pn ++ pins, p.1 ≠ b) : Inv X pins σ H' s' := by
  obtain ⟨h', g', d', t', o'⟩ := s'
  have e : o' = s.os := ho
  subst e
  exact I.call (g' := g') (t' := t') (d' := d') u hok hg hch
end
abbrev XK := Value → Option Addr → Hp → Prop
abbrev St := List (Option V)
abbrev VK := V → Hp → Prop
abbrev TE := St → Hp → VK → Prop
abbrev TT := St → Hp → (Bool → Hp → Prop) → Prop
abbrev TA := St → Hp → (List V → Hp → Prop) → Prop
structure Ends where
  nx : St → Hp → Prop
  rt : VK
  bk : St → Hp → Prop := fun _ _ => False
  ct : St → Hp → Prop := fun _ _ => False
abbrev TS := Ends → St → Hp → Prop
def EP (X : Cx) (pins : List (Addr × Obj)) (σ : St) (Q : VK) (u : Value) (s' : Shared) : Prop := ∃ v H', Inv X pins σ H' s' ∧ RelV v u ∧ Q v H'
def TP (X : Cx) (pins : List (Addr × Obj)) (σ : St) (Q : Bool → Hp → Prop) (b : Bool) (s' : Shared) : Prop := ∃ H', Inv X pins σ H' s' ∧ Q b H'
def AP (X : Cx) (pins : List (Addr × Obj)) (σ : St) (Q : List V → Hp → Prop) (us : List Value) (s' : Shared) : Prop := ∃ vs H', Inv X pins σ H' s' ∧ Vals vs us ∧ Q vs H'
def SP (X : Cx) (pins : List (Addr × Obj)) (D : Ends) (f : Flow) (s' : Shared) : Prop :=
  match f with
  | .next => ∃ σ' H', Inv X pins σ' H' s' ∧ D.nx σ' H'
  | .brk => ∃ σ' H', Inv X pins σ' H' s' ∧ D.bk σ' H'
  | .cont => ∃ σ' H', Inv X pins σ' H' s' ∧ D.ct σ' H'
  | .ret u => ∃ v σ' H', Inv X pins σ' H' s' ∧ RelV v u ∧ D.rt v H'
def PE (X : Cx) (e : Expr) (t : TE) : Prop :=
  ∀ (pins : List (Addr × Obj)) (s : Shared) (σ : St) (H : Hp) (Q : VK), Inv X pins σ H s → t σ H Q → wpAny (model X.prog X.w) X.A (eval e X.env) (EP X pins σ Q) X.xe s
def PT (X : Cx) (e : Expr) (t : TT) : Prop :=
  ∀ (pins : List (Addr × Obj)) (s : Shared) (σ : St) (H : Hp) (Q : Bool → Hp → Prop), Inv X pins σ H s → t σ H Q → wpAny (model X.prog X.w) X.A (isTrue e X.env (eval e X.env)) (TP X pins σ Q) X.xe s
def PW (X : Cx) (e : Expr) (t : TT) : Prop :=
  ∀ (whole : Sem Value) (pins : List (Addr × Obj)) (s : Shared) (σ : St) (H : Hp) (Q : Bool → Hp → Prop), Inv X pins σ H s → t σ H Q → wpAny (model X.prog X.w) X.A (isTrue e X.env whole) (TP X pins σ Q) X.xe s
theorem PW.pt {X : Cx} {e : Expr} {t : TT} (h : PW X e t) : PT X e t := h _
def PA (X : Cx) (es : List Expr) (t : TA) : Prop :=
  ∀ (pos : Pos) (pins : List (Addr × Obj)) (s : Shared) (σ : St) (H : Hp) (Q : List V → Hp → Prop), Inv X pins σ H s → t σ H Q → wpAny (model X.prog X.w) X.A (spliced (backTo pos (starEach es X.env))) (AP X pins σ Q) X.xe s
def PS (X : Cx) (st : Stmt) (t : TS) : Prop :=
  ∀ (pins : List (Addr × Obj)) (s : Shared) (σ : St) (H : Hp) (D : Ends), Inv X pins σ H s → t D σ H → wpAny (model X.prog X.w) X.A (exec st X.env) (SP X pins D) X.xe s
def PSs (X : Cx) (st : List Stmt) (t : TS) : Prop :=
  ∀ (pins : List (Addr × Obj)) (s : Shared) (σ : St) (H : Hp) (D : Ends), Inv X pins σ H s → t D σ H → wpAny (model X.prog X.w) X.A (execs st X.env) (SP X pins D) X.xe s
theorem thn {α : Type} {t : Sem α} {Q Q' : α → Shared → Prop} {M : Model} {A : Around} {E : Value → Shared → Prop} {s : Shared} (h : wpAny M A t Q E s) (hQ : ∀ a s, Q a s → Q' a s) : wpAny M A t Q' E s := wpAny_mono h hQ fun _ _ x => x
end L2
namespace L2
open PySem PySem.Spec PyProof.Rows
section
variable {X : Cx}
def tVar (i : Nat) : TE := fun σ H Q => ∃ v, σ[i]? = some (some v) ∧ Q v H
def tC (v : V) : TE := fun _ H Q => Q v H
theorem pe_var {i : Nat} {x : Str} {pos : Pos} (hN : X.N[i]? = some x) (hv : Vis X.env.scope x) (hd : (x == ("__debug__" : Str)) = false := by decide) (hcd : (x == ("__classdict__" : Str)) = false := by decide) : PE X (.Name x pos) (tVar i) := by
  intro pins s σ H Q I h
  obtain ⟨v, e, h⟩ := h
  obtain ⟨m, hn, hl⟩ := I.loc
  obtain ⟨u, r, l⟩ := hl i x v hN e hv
  have fin : EP X pins σ Q u s := ⟨v, H, I, r, h⟩
  rcases l with ⟨hk, hm⟩ | ⟨hk, c, hc, hcell⟩
  · exact wpAny_Name (wpAny_loadName_local I.ok.kind hk hn hm fin) hd
  · rcases hk with hk | hk
    · exact wpAny_Name (wpAny_loadName_cell I.ok.kind hk hc hcell fin) hd
    · exact wpAny_Name (wpAny_loadName_free I.ok.kind hk hc hcell fin hcd) hd
theorem pe_int {i j pos} : PE X (.Constant (.int i) j pos) (tC (.int i)) := fun _ _ _ H _ I h => wpAny_Constant_int ⟨.int i, H, I.tok _, ⟨_, rfl⟩, h⟩
theorem pe_non {j pos} : PE X (.Constant .none j pos) (tC .non) := fun _ _ _ H _ I h => Constant_none ⟨.non, H, I, rfl, h⟩
def Gl (X : Cx) (x : Str) : Prop := X.env.kindOf x = some .globalImplicit
theorem ld_glob {E : Value → Shared → Prop} {pins : List (Addr × Obj)} {s : Shared} {σ : St} {H : Hp} {x : Str} {u : Value} {pos : Pos} {Q : Value → Shared → Prop} (I : Inv X pins σ H s) (hg : Gl X x) (hm : X.mg x = some u) (h : Q u s)
    (hd : (x == ("__debug__" : Str)) = false := by decide) : wpAny (model X.prog X.w) X.A (eval (.Name x pos) X.env) Q E s :=
  Calls.Name_function_global I.ok.kind hg (Calls.loadGlobal_global (by rw [I.ok.glob]; exact I.mod.glob.keeps I.bk) hm h) hd
theorem ld_blt {E : Value → Shared → Prop} {pins : List (Addr × Obj)} {s : Shared} {σ : St} {H : Hp} {x : Str} {u : Value} {pos : Pos} {Q : Value → Shared → Prop} (I : Inv X pins σ H s) (hg : Gl X x) (hm : X.mg x = none) (hv : bootBuiltins x = some u) (h : Q u s)
    (hn : x ≠ "__name__" := by decide) (hd : (x == ("__debug__" : Str)) = false := by decide) : wpAny (model X.prog X.w) X.A (eval (.Name x pos) X.env) Q E s := by
  obtain ⟨mb, h1, h2⟩ := I.mod.blt
  exact Calls.Name_function_global I.ok.kind hg (Calls.loadGlobal_builtin (by rw [I.ok.glob]; exact I.mod.glob.keeps I.bk) hm (by rw [I.ok.blt]; exact h1.keeps I.bk) ((h2 x hn).trans hv) h) hd
theorem pe_glob {x : Str} {v : V} {u : Value} {pos : Pos} (hg : Gl X x) (hm : X.mg x = some u) (r : RelV v u) (hd : (x == ("__debug__" : Str)) = false := by decide) : PE X (.Name x pos) (tC v) :=
  fun _ _ _ H _ I h => ld_glob I hg hm ⟨v, H, I, r, h⟩ hd
variable {a b : Expr} {ta tb : TE} {pos : Pos}
def tB (t : TE) : TT := fun σ H Q => t σ H fun x H1 => ∃ c, x = .bl c ∧ Q c H1
theorem pt_val {e : Expr} {t : TE} (h : PE X e t) (he : ∀ whole, isTrue e X.env whole = (do let v ← whole; standAt e.pos; holding [v] (truthy v)) := by intro _; rfl) : PT X e (tB t) := by
  intro pins s σ H Q I hw
  refine isTrue_plain (thn (h pins s σ H _ I hw) fun v s1 ⟨x, H1, I1, r1, q1⟩ => ?_) (he _)
  obtain ⟨d, rfl, q⟩ := q1
  cases r1
  exact wpAny_truthy_bool ⟨H1, I1, q⟩
variable {tA tB' : TT} {rest : List Expr}
def tOr (t u : TT) : TT := fun σ H Q => t σ H fun c H1 => if c = true then Q true H1 else u σ H1 Q
def tNot (t : TT) : TT := fun σ H Q => t σ H fun c H1 => Q (!c) H1
theorem pw_or1 (ha : PT X a tA) : PW X (.BoolOp .Or [a] pos) tA := by
  intro wh pins s σ H Q I h
  refine isTrue_or (thn (ha pins s σ H Q I h) fun c s1 e => ?_)
  cases c with
  | false => exact isTrue_or_nil e
  | true => exact e
theorem pw_or (ha : PT X a tA) (hb : PW X (.BoolOp .Or (b :: rest) pos) tB') : PW X (.BoolOp .Or (a :: b :: rest) pos) (tOr tA tB') := by
  intro wh pins s σ H Q I h
  refine isTrue_or (thn (ha pins s σ H _ I h) fun c s1 ⟨H1, I1, q1⟩ => ?_)
  cases c with
  | true => exact ⟨H1, I1, q1⟩
  | false => exact hb wh pins s1 σ H1 Q I1 q1
theorem pt_not (ha : PT X a tA) : PT X (.UnaryOp .Not a pos) (tNot tA) := by
  intro pins s σ H Q I h
  exact isTrue_not (ha pins s σ H (fun c H1 => Q (!c) H1) I h)
def tAndV (ta tb : TE) : TE := fun σ H Q => ta σ H fun x H1 => ∃ c, x = .bl c ∧ if c = true then tb σ H1 Q else Q (.bl false) H1
theorem pe_one {op} {t : TE} (h : PE X a t) : PE X (.BoolOp op [a] pos) t := fun pins s σ H Q I hw => BoolOp_one (h pins s σ H Q I hw)
theorem pe_and (ha : PE X a ta) (hb : PE X (.BoolOp .And (b :: rest) pos) tb) : PE X (.BoolOp .And (a :: b :: rest) pos) (tAndV ta tb) := by
  intro pins s σ H Q I h
  refine BoolOp_and (thn (ha pins s σ H _ I h) fun v s1 ⟨x, H1, I1, r1, q1⟩ => ?_)
  obtain ⟨c, rfl, q1⟩ := q1
  cases r1
  refine wpAny_truthy_bool ?_
  cases c with
  | true => exact hb pins s1 σ H1 Q I1 q1
  | false => exact ⟨.bl false, H1, I1, rfl, q1⟩
def tIf (t : TT) (ta tb : TE) : TE := fun σ H Q => t σ H fun c H1 => if c = true then ta σ H1 Q else tb σ H1 Q
theorem pe_ifExp {c : Expr} (hc : PT X c tA) (ha : PE X a ta) (hb : PE X b tb) : PE X (.IfExp c a b pos) (tIf tA ta tb) := by
  intro pins s σ H Q I h
  refine wpAny_IfExp (thn (hc pins s σ H _ I h) fun d s1 ⟨H1, I1, q1⟩ => ?_)
  cases d with
  | true => exact ha pins s1 σ H1 Q I1 q1
  | false => exact hb pins s1 σ H1 Q I1 q1
end
end L2
namespace L2
open PySem PySem.Spec PyProof.Rows
def SqL (K : PySem.W.Frag) (H : Hp) (a : Addr) (xs : List V) : Prop :=
  Rd H a (.lst xs) ∨
    ∃ (o : Obj) (its : Array Value) (n : Nat), K.lookup a = some o ∧ o.cls = .type "list" ∧ o.dict = none ∧ o.data = .seq its n ∧ its.size ≤ sizeLine ∧ Vals xs its.toList
def SqT (K : PySem.W.Frag) (H : Hp) (a : Addr) (xs : List V) : Prop :=
  Rd H a (.tup xs) ∨
    ∃ (o : Obj) (its : Array Value) (n : Nat), K.lookup a = some o ∧ o.cls = .type "tuple" ∧ o.data = .seq its n ∧ its.size ≤ sizeLine ∧ Vals xs its.toList
def absV : Value → Option V
  | .none => some .non
  | .bool b => some (.bl b)
  | .int i _ => some (.int i)
  | .str x _ => some (.str x)
  | .bytes b _ => some (.byt b)
  | .float b _ => some (.flt b)
  | .ref a => some (.ref a)
  | .type n => some (.ty n)
  | _ => none
theorem RelV.abs {x : V} {u : Value} (r : RelV x u) : absV u = some x := by
  cases x with
  | non => cases r; rfl
  | bl _ => cases r; rfl
  | int _ => obtain ⟨t, rfl⟩ := r; rfl
  | str _ => obtain ⟨t, rfl⟩ := r; rfl
  | byt _ => obtain ⟨t, rfl⟩ := r; rfl
  | flt _ => obtain ⟨t, rfl⟩ := r; rfl
  | ref _ => cases r; rfl
  | ty _ => cases r; rfl
theorem RelV.inj {x y : V} {u : Value} (r : RelV x u) (q : RelV y u) : x = y := Option.some.inj (r.abs.symm.trans q.abs)
theorem Vals.inj : ∀ {xs ys : List V} {us : List Value}, Vals xs us → Vals ys us → xs = ys
  | _, _, _, .nil, .nil => rfl
  | _, _, _, .cons r t, .cons r' t' => by rw [r.inj r', Vals.inj t t']
section
variable {X : Cx} {pins : List (Addr × Obj)} {σ : St} {H : Hp} {s : Shared} {a : Addr} {xs ys : List V}
theorem SqL.of {K : PySem.W.Frag} (h : H a = some (.lst xs)) : SqL K H a xs := .inl (.inl h)
theorem SqT.of {K : PySem.W.Frag} (h : H a = some (.tup xs)) : SqT K H a xs := .inl (.inl h)
theorem Inv.list (I : Inv X pins σ H s) (h : SqL X.K H a xs) : ∃ its : List Value, Vals xs its ∧ PlainL s.heap a its.toArray ∧ xs.length ≤ sizeLine := by
  rcases h with h | ⟨o, its, n, hk, hc, hd, hs, hz, r⟩
  · obtain ⟨z, its, n, r, e⟩ := h.ok I.hok
    exact ⟨its, r, ⟨_, n, e, rfl, rfl, rfl⟩, z⟩
  · refine ⟨its.toList, r, ⟨o, n, I.kIn a o hk, hc, hd, by simpa using hs⟩, ?_⟩
    have e := r.length
    simp only [Array.length_toList] at e
    omega
theorem Inv.tuple (I : Inv X pins σ H s) (h : SqT X.K H a xs) : ∃ its : List Value, Vals xs its ∧ IsTup s.heap a its.toArray ∧ xs.length ≤ sizeLine := by
  rcases h with h | ⟨o, its, n, hk, hc, hs, hz, r⟩
  · obtain ⟨z, its, r, p⟩ := h.ok I.hok
    exact ⟨its, r, p, z⟩
  · refine ⟨its.toList, r, ⟨o, I.kIn a o hk, hc, n, by simpa using hs⟩, ?_⟩
    have e := r.length
    simp only [Array.length_toList] at e
    omega
theorem Inv.list_inj (I : Inv X pins σ H s) (h : SqL X.K H a xs) (h' : SqL X.K H a ys) : xs = ys := by
  obtain ⟨its, r, ⟨o, n, e, _, _, d⟩, _⟩ := I.list h
  obtain ⟨its', r', ⟨o', n', e', _, _, d'⟩, _⟩ := I.list h'
  rw [e] at e'; cases e'
  rw [d] at d'
  injection d' with d1 _
  have : its = its' := by simpa using congrArg Array.toList d1
  subst this
  exact r.inj r'
end
abbrev Cx.wish (X : Cx) (E : Value → Shared → Prop) : Cx := { X with xe := E }
abbrev Cx.nox (X : Cx) : Cx := X.wish fun _ _ => False
theorem Cx.Ok.wish {X : Cx} (ok : X.Ok) (E : Value → Shared → Prop) : (X.wish E).Ok :=
  ⟨ok.mod, ok.kind, ok.glob, ok.blt, ok.above, ok.inj, ok.has, ok.cab, ok.hd, ok.frames, ok.stk, ok.exf, ok.bs, ok.bsz, ok.noex, ok.exfs, ok.funs, ok.frf⟩
theorem Cx.Ok.unwish {X : Cx} {E : Value → Shared → Prop} (ok : (X.wish E).Ok) : X.Ok :=
  ⟨ok.mod, ok.kind, ok.glob, ok.blt, ok.above, ok.inj, ok.has, ok.cab, ok.hd, ok.frames, ok.stk, ok.exf, ok.bs, ok.bsz, ok.noex, ok.exfs, ok.funs, ok.frf⟩
section
variable {X : Cx} {pins : List (Addr × Obj)} {σ : St} {H : Hp} {s : Shared} {E : Value → Shared → Prop}
theorem Inv.wish (I : Inv X pins σ H s) (E : Value → Shared → Prop) : Inv (X.wish E) pins σ H s := ⟨I.ok.wish E, I.os, I.bare, I.base, I.loc, I.cell, I.free, I.freeC, I.pin, I.hok, I.len⟩
theorem Inv.unwish (I : Inv (X.wish E) pins σ H s) : Inv X pins σ H s := ⟨I.ok.unwish, I.os, I.bare, I.base, I.loc, I.cell, I.free, I.freeC, I.pin, I.hok, I.len⟩
theorem SP.unwish {D : Ends} {f : Flow} {s' : Shared} (h : SP (X.wish E) pins D f s') : SP X pins D f s' := by
  cases f with
  | next => obtain ⟨σ', H', I, q⟩ := h; exact ⟨σ', H', I.unwish, q⟩
  | brk => obtain ⟨σ', H', I, q⟩ := h; exact ⟨σ', H', I.unwish, q⟩
  | cont => obtain ⟨σ', H', I, q⟩ := h; exact ⟨σ', H', I.unwish, q⟩
  | ret u => obtain ⟨v, σ', H', I, r, q⟩ := h; exact ⟨v, σ', H', I.unwish, r, q⟩
theorem PSs.nox {st : List Stmt} {t : TS} (h : PSs X.nox st t) : PSs X st t := fun pins s σ H D I hw =>
  wpAny_mono (h pins s σ H D (I.wish _) hw) (fun _ _ q => q.unwish) fun _ _ z => False.elim z
end
section
variable {X : Cx} {st : Stmt} {rest : List Stmt} {t u : TS} {e : Expr} {te : TE} {pos : Pos}
def tNext : TS := fun D σ H => D.nx σ H
def tSeq (t u : TS) : TS := fun D σ H => t { D with nx := u D } σ H
theorem pss_nil : PSs X [] tNext := fun _ _ σ H _ I h => wpAny_execs_nil ⟨σ, H, I, h⟩
theorem pss_cons (h1 : PS X st t) (h2 : PSs X rest u) : PSs X (st :: rest) (tSeq t u) := by
  intro pins s σ H D I h
  refine wpAny_execs_cons (thn (h1 pins s σ H { D with nx := u D } I h) fun f s1 q => ?_)
  cases f with
  | next =>
    obtain ⟨σ', H', I', q⟩ := q
    exact h2 pins s1 σ' H' D I' q
  | ret v => exact q
  | brk => exact q
  | cont => exact q
theorem pss_one (h1 : PS X st t) : PSs X [st] t := by
  intro pins s σ H D I h
  refine wpAny_execs_cons (thn (h1 pins s σ H D I h) fun f s1 q => ?_)
  cases f with
  | next => exact wpAny_execs_nil q
  | ret v => exact q
  | brk => exact q
  | cont => exact q
theorem Inv.quiet {pins : List (Addr × Obj)} {σ : St} {H : Hp} {s : Shared} (I : Inv X pins σ H s) : interactive X.env = false := by simp [interactive, I.ok.kind]
def tDrop (te : TE) : TS := fun D σ H => te σ H fun _ H1 => D.nx σ H1
theorem ps_expr (he : PE X e te) (hs : swapsWith e none pos.line X.env = pure false := by rfl) : PS X (.Expr e pos) (tDrop te) := by
  intro pins s σ H D I h
  exact wpAny_Expr_any (thn (he pins s σ H _ I h) fun v s1 ⟨x, H1, I1, r1, q1⟩ => ⟨σ, H1, I1, q1⟩) I.quiet hs
def tRet (te : TE) : TS := fun D σ H => te σ H D.rt
theorem ps_ret (he : PE X e te) : PS X (.Return (some e) pos) (tRet te) := by
  intro pins s σ H D I h
  exact wpAny_Return_some (thn (he pins s σ H _ I h) fun v s1 ⟨x, H1, I1, r1, q1⟩ => ⟨x, σ, H1, I1, r1, q1⟩)
def tIfS (c : TT) (t u : TS) : TS := fun D σ H => c σ H fun b H1 => if b = true then t D σ H1 else u D σ H1
theorem ps_if {c : Expr} {a b : List Stmt} {tc : TT} (hc : PT X c tc) (ha : PSs X a t) (hb : PSs X b u) : PS X (.If c a b pos) (tIfS tc t u) := by
  intro pins s σ H D I h
  refine wpAny_If (thn (hc pins s σ H _ I h) fun d s1 ⟨H1, I1, q1⟩ => ?_)
  cases d with
  | true => exact ha pins s1 σ H1 D I1 q1
  | false => exact hb pins s1 σ H1 D I1 q1
end
abbrev TG := V → St → Hp → (St → Hp → Prop) → Prop
abbrev TGs := List V → St → Hp → (St → Hp → Prop) → Prop
def PG (X : Cx) (target : Expr) (t : TG) : Prop :=
  ∀ (pins : List (Addr × Obj)) (s : Shared) (σ : St) (H : Hp) (v : V) (u : Value) (Q : St → Hp → Prop), Inv X pins σ H s → RelV v u → t v σ H Q →
    wpAny (model X.prog X.w) X.A (assign target X.env u) (fun _ s' => ∃ σ' H', Inv X pins σ' H' s' ∧ Q σ' H') X.xe s
def PGs (X : Cx) (ts : List Expr) (t : TGs) : Prop :=
  ∀ (pins : List (Addr × Obj)) (s : Shared) (σ : St) (H : Hp) (vs : List V) (us : List Value) (Q : St → Hp → Prop), Inv X pins σ H s → Vals vs us → t vs σ H Q →
    wpAny (model X.prog X.w) X.A (assignInOrder ((assignEach ts X.env).map (·.2)) us) (fun _ s' => ∃ σ' H', Inv X pins σ' H' s' ∧ Q σ' H') X.xe s
abbrev TSet := V → V → V → Hp → (Hp → Prop) → Prop
def PSet (X : Cx) (t : TSet) : Prop :=
  ∀ (pins : List (Addr × Obj)) (s : Shared) (σ : St) (H : Hp) (o i v : V) (ov iv u : Value) (Q : Hp → Prop), Inv X pins σ H s → RelV o ov → RelV i iv → RelV v u → t o i v H Q →
    wpAny (model X.prog X.w) X.A (setItem ov iv u) (fun _ s' => ∃ H', Inv X pins σ H' s' ∧ Q H') X.xe s
abbrev TIp := V → V → Hp → VK → Prop
def PIp (X : Cx) (op : Operator) (t : TIp) : Prop :=
  ∀ (pins : List (Addr × Obj)) (s : Shared) (σ : St) (H : Hp) (x y : V) (v u : Value) (Q : VK), Inv X pins σ H s → RelV x v → RelV y u → t x y H Q →
    wpAny (model X.prog X.w) X.A (inplaceOp op v u) (EP X pins σ Q) X.xe s
section
variable {X : Cx} {pos : Pos}
def gName (i : Nat) : TG := fun v σ H Q => Q (σ.set i (some v)) H
theorem pg_name {i : Nat} {x : Str} (hN : X.N.Nodup) (hi : X.N[i]? = some x) (hx : Loc X.env.scope x) (hf : X.fn x = true ∨ X.env.scope.names.lookup x = some .local := by first | exact .inl rfl | exact .inr rfl | assumption) : PG X (.Name x pos) (gName i) := by
  intro pins s σ H v u Q I r h
  exact wpAny_assign_Name (store_ok I hN hi hx r (fun s' I' => ⟨_, H, I', h⟩) hf)
def gNil : TGs := fun vs σ H Q => vs = [] ∧ Q σ H
def gCons (t : TG) (u : TGs) : TGs := fun vs σ H Q => ∃ v r, vs = v :: r ∧ t v σ H fun σ' H' => u r σ' H' Q
theorem pgs_nil : PGs X [] gNil := by
  intro pins s σ H vs us Q I r h
  obtain ⟨e, h⟩ := h
  subst e
  cases r
  exact assignInOrder_nil ⟨σ, H, I, h⟩
theorem pgs_cons {e : Expr} {es : List Expr} {t : TG} {u : TGs} (h1 : PG X e t) (h2 : PGs X es u)
    (hs : (assignEach (e :: es) X.env).map (·.2) = assign e X.env :: (assignEach es X.env).map (·.2) := by rfl) : PGs X (e :: es) (gCons t u) := by
  intro pins s σ H vs us Q I r h
  obtain ⟨v, vr, e1, h⟩ := h
  subst e1
  cases r with
  | cons r rr =>
    rw [hs]
    refine assignInOrder_cons (thn (h1 pins s σ H _ _ _ I r h) fun _ s1 ⟨σ1, H1, I1, q1⟩ => ?_)
    exact h2 pins s1 σ1 H1 _ _ Q I1 rr q1
def gTup (K : PySem.W.Frag) (n : Nat) (t : TGs) : TG := fun v σ H Q => ∃ a xs, v = .ref a ∧ SqT K H a xs ∧ xs.length = n ∧ t xs σ H Q
theorem pg_tup {es : List Expr} {k : Nat} {t : TGs} {n : Nat} (hc : X.calm = true) (h : PGs X es t)
    (hn : (assignEach es X.env).length = n := by rfl) (hst : (assignEach es X.env).findIdx? (·.1) = none := by rfl) : PG X (.Tuple es k pos) (gTup X.K n t) := by
  intro pins s σ H v u Q I r hw
  obtain ⟨a, xs, e1, hq, hl, hw⟩ := hw
  subst e1
  cases r
  obtain ⟨its, rv, ht, hz⟩ := I.tuple hq
  refine assign_Tuple_tuple (I.ok.hd hc) ht (by simp [hn, ← hl, rv.length]) hst fun h' hx => ?_
  have I1 : Inv X pins σ H { s with heap := h' } := I.kept (t' := s.toks) fun b o e => hx b o (Nat.ne_of_lt (Heap.lt_size e)) e
  exact h pins _ σ H xs _ Q I1 (by simpa using rv) hw
def gSub (to ti : TE) (t : TSet) : TG := fun v σ H Q => to σ H fun o H1 => ti σ H1 fun i H2 => t o i v H2 fun H3 => Q σ H3
theorem pg_sub {o i : Expr} {to ti : TE} {t : TSet} (ho : PE X o to) (hi : PE X i ti) (hs : PSet X t)
    (ha : ∀ v, assign (.Subscript o i pos) X.env v = (do
      let ov ← holding [v] (eval o X.env)
      let iv ← holding [v, ov] (eval i X.env)
      standAt pos
      holding [v, ov, iv] (setItem ov iv v)
      release [v, ov, iv] []) := by intro _; rfl) : PG X (.Subscript o i pos) (gSub to ti t) := by
  intro pins s σ H v u Q I r h
  rw [ha]
  refine wpAny_bind (wpAny_holding (thn (ho pins s σ H _ I h) fun ov s1 ⟨x, H1, I1, r1, q1⟩ => ?_))
  refine wpAny_bind (wpAny_holding (thn (hi pins s1 σ H1 _ I1 q1) fun iv s2 ⟨y, H2, I2, r2, q2⟩ => ?_))
  refine wpAny_bind (wpAny_standAt (wpAny_bind (wpAny_holding (thn (hs pins s2 σ H2 x y v ov iv u _ I2 r1 r2 r q2) fun _ s3 ⟨H3, I3, q3⟩ => ?_))))
  exact wpAny_release ⟨σ, H3, I3, q3⟩
def tAsg (te : TE) (g : TG) : TS := fun D σ H => te σ H fun x H1 => g x σ H1 D.nx
theorem ps_asg {tg e : Expr} {te : TE} {g : TG} (he : PE X e te) (hg : PG X tg g) (hs : swapsWithSole [tg] e pos.line X.env = pure false := by rfl) (hw : swappedStores [tg] e X.env = pure none := by rfl)
    (h1 : (assignEach [tg] X.env).map (·.2) = [assign tg X.env] := by rfl) : PS X (.Assign [tg] e pos) (tAsg te g) := by
  intro pins s σ H D I h
  refine wpAny_Assign_stores (thn (he pins s σ H _ I h) fun v s1 ⟨x, H1, I1, r1, q1⟩ => ?_) hs hw
  rw [h1]
  exact thn (hg pins s1 σ H1 x v _ I1 r1 q1) fun _ s2 q => q
theorem ps_set {i : Nat} {x : Str} {e : Expr} {te : TE} {pos' : Pos} (hN : X.N.Nodup) (hi : X.N[i]? = some x) (hx : Loc X.env.scope x) (he : PE X e te) (hs : swapsWith e (some (.Name x pos')) pos.line X.env = pure false := by rfl) (hf : X.fn x = true ∨ X.env.scope.names.lookup x = some .local := by first | exact .inl rfl | exact .inr rfl | assumption) :
    PS X (.Assign [.Name x pos'] e pos) (tAsg te (gName i)) := by
  intro pins s σ H D I h
  refine wpAny_Assign_Name (thn (he pins s σ H _ I h) fun v s1 ⟨y, H1, I1, r1, q1⟩ => ?_) hs
  exact store_ok I1 hN hi hx r1 (fun s2 I2 => ⟨_, H1, I2, q1⟩) hf
def tAug (i : Nat) (te : TE) (ti : TIp) : TS := fun D σ H => ∃ x, σ[i]? = some (some x) ∧ te σ H fun y H1 => ti x y H1 fun z H2 => D.nx (σ.set i (some z)) H2
theorem ps_aug {i : Nat} {x : Str} {e : Expr} {te : TE} {op : Operator} {ti : TIp} {pos' : Pos} (hN : X.N.Nodup) (hi : X.N[i]? = some x) (hx : Loc X.env.scope x) (he : PE X e te) (ho : PIp X op ti) (hf : X.fn x = true ∨ X.env.scope.names.lookup x = some .local := by first | exact .inl rfl | exact .inr rfl | assumption) :
    PS X (.AugAssign (.Name x pos') op e pos) (tAug i te ti) := by
  intro pins s σ H D I h
  obtain ⟨v, e1, h⟩ := h
  obtain ⟨m, hn, hl⟩ := I.loc
  have vis : Vis X.env.scope x := by rcases hx with k | k; exact .inl k; exact .inr (.inl k)
  obtain ⟨u, r, l⟩ := hl i x v hi e1 vis
  refine wpAny_AugAssign_Name ?_
  have go : wpAny (model X.prog X.w) X.A (eval e X.env) (fun w s₂ => wpAny (model X.prog X.w) X.A (inplaceOp op u w) (fun r s₃ => wpAny (model X.prog X.w) X.A (storeName X.env x r) (fun _ => SP X pins D .next) X.xe s₃) X.xe s₂) X.xe s := by
    refine thn (he pins s σ H _ I h) fun w s1 ⟨y, H1, I1, r1, q1⟩ => ?_
    refine thn (ho pins s1 σ H1 v y u w _ I1 r r1 q1) fun z s2 ⟨zv, H2, I2, r2, q2⟩ => ?_
    exact store_ok I2 hN hi hx r2 (fun s3 I3 => ⟨_, H2, I3, q2⟩) hf
  rcases l with ⟨hk, hm⟩ | ⟨hk, c, hc, hcell⟩
  · exact wpAny_loadName_local I.ok.kind hk hn hm go
  · rcases hk with hk | hk
    · exact wpAny_loadName_cell I.ok.kind hk hc hcell go
    · rcases hx with k | k
      · have : X.env.scope.names.lookup x = some .free := hk
        rw [k] at this; cases this
      · have : X.env.scope.names.lookup x = some .free := hk
        rw [k] at this; cases this
end
section
variable {X : Cx} {pos : Pos}
def tWhile (c : TT) (tb : TS) : TS := fun D σ H => ∃ W : Nat → St → Hp → Prop, (∃ m, W m σ H) ∧ ∀ m σ H, W m σ H →
  c σ H fun b H1 => if b = true then ∃ N : St → Hp → Prop, (∀ σ' H', N σ' H' → ∃ m', m' < m ∧ W m' σ' H') ∧ tb { D with nx := N, ct := N, bk := D.nx } σ H1 else D.nx σ H1
theorem ps_while {c : Expr} {body : List Stmt} {tc : TT} {tb : TS} (hp : PassesOwn (model X.prog X.w) X.A X.env X.xe) (hc : PT X c tc) (hb : PSs X body tb) : PS X (.While c body [] pos) (tWhile tc tb) := by
  intro pins s σ H D I h
  obtain ⟨W, ⟨m0, w0⟩, turn⟩ := h
  refine wpAny_While (codeAny_whileLoop (fun n s' => ∃ σ' H', Inv X pins σ' H' s' ∧ W n σ' H') ?_ m0 ⟨σ, H, I, w0⟩)
  rintro n s1 ⟨σ1, H1, I1, w1⟩
  refine wpAny_passesOwn hp (thn (hc pins s1 σ1 H1 _ I1 (turn n σ1 H1 w1)) fun b s2 ⟨H2, I2, q2⟩ => ?_)
  cases b with
  | true =>
    obtain ⟨N, hN, q2⟩ := q2
    rw [if_pos rfl]
    refine wpAny_passesOwn hp (thn (hb pins s2 σ1 H2 _ I2 q2) fun f s3 q3 => ?_)
    cases f with
    | next =>
      obtain ⟨σ3, H3, I3, n3⟩ := q3
      obtain ⟨m', hm, w3⟩ := hN σ3 H3 n3
      exact ⟨m', hm, σ3, H3, I3, w3⟩
    | cont =>
      obtain ⟨σ3, H3, I3, n3⟩ := q3
      obtain ⟨m', hm, w3⟩ := hN σ3 H3 n3
      exact ⟨m', hm, σ3, H3, I3, w3⟩
    | brk => exact q3
    | ret v => exact q3
  | false =>
    rw [if_neg Bool.false_ne_true]
    exact wpAny_execs_nil ⟨σ1, H2, I2, q2⟩
end
structure It where
  go : Nat → Hp → Prop
  yld : Nat → Hp → V → Hp → Prop
  stop : Nat → Hp → Prop
def FpOk (X : Cx) (pins : List (Addr × Obj)) (H : Hp) (b : Addr) : Prop :=
  H b = none ∧ b ≠ X.env.locals ∧ b ∉ X.fs ∧ (b ∈ X.ex ∨ X.s_0.heap.objs.size ≤ b) ∧ (∀ x c, X.env.cells.lookup x = some c → c ≠ b) ∧ ∀ p ∈ X.pn ++ pins, p.1 ≠ b
theorem Inv.fpOk {X : Cx} {pins : List (Addr × Obj)} {σ : St} {H H' : Hp} {s : Shared} {b : Addr} (I : Inv X pins σ H s) (hb : s.heap.objs.size ≤ b) (hn : H' b = none) : FpOk X pins H' b := by
  refine ⟨hn, Nat.ne_of_gt (Nat.lt_of_lt_of_le I.lt hb), I.nofs hb, .inr (Nat.le_trans I.sz hb), fun x c e z => ?_, fun p hp z => ?_⟩
  · obtain ⟨v, q⟩ := I.cell x c e
    exact absurd (Nat.lt_of_lt_of_le q.lt (by rw [z]; exact hb)) (Nat.lt_irrefl _)
  · exact absurd (Nat.lt_of_lt_of_le (Heap.lt_size (I.pin p hp).1) (by rw [z]; exact hb)) (Nat.lt_irrefl _)
structure Turn (P : Program) (w : World) (K : PySem.W.Frag) (tg : Expr) (J : It) (fp : List Addr) (it : Addr) (tn : Nat → Heap → Prop) : Prop where
  mem : it ∈ fp
  obj : ∀ i h, tn i h → ∀ b ∈ fp, ∃ o, h.get? b = some o ∧ ∀ v, o.data ≠ .cell v
  keep : ∀ i h h', tn i h → (∀ b ∈ fp, ∀ o, h.get? b = some o → h'.get? b = some o) → tn i h'
  item : ∀ (X : Cx), X.prog = P → X.w = w → X.K = K → X.calm = true → ∀ (i : Nat) (pins : List (Addr × Obj)) (s : Shared) (σ : St) (H : Hp) (E : Value → Shared → Prop), Inv X pins σ H s → (∀ b ∈ fp, FpOk X pins H b) → tn i s.heap → J.go i H →
    wpAny (model P w) X.A (pyNext (.ref it)) (fun r s1 => ∃ u, r = some u ∧
      wpAny (model P w) X.A (letOwnedTupleGo tg (.ref it) u) (fun _ s2 => ∃ x H', Inv X pins σ H' s2 ∧ RelV x u ∧ J.yld i H x H' ∧ tn (i + 1) s2.heap ∧ ∀ b ∈ fp, H' b = none) E s1) E s
  done : ∀ (X : Cx), X.prog = P → X.w = w → X.K = K → X.calm = true → ∀ (i : Nat) (pins : List (Addr × Obj)) (s : Shared) (σ : St) (H : Hp) (E : Value → Shared → Prop), Inv X pins σ H s → (∀ b ∈ fp, FpOk X pins H b) → tn i s.heap → J.stop i H →
    wpAny (model P w) X.A (pyNext (.ref it)) (fun r s1 => r = none ∧ Inv X pins σ H s1) E s
  self : ∀ (A : Around) (i : Nat) (s : Shared) (Q : Value → Shared → Prop) (E : Value → Shared → Prop), tn i s.heap → Q (.ref it) s → wpAny (model P w) A (pyIter (.ref it)) Q E s
abbrev TI := St → Hp → (It → Hp → Prop) → Prop
def PIE (X : Cx) (pins : List (Addr × Obj)) (σ : St) (tg : Expr) (R : It → Hp → Prop) (itv : Value) (s2 : Shared) : Prop :=
  ∃ (it : Addr) (fp : List Addr) (tn : Nat → Heap → Prop) (J : It) (H' : Hp), itv = .ref it ∧ Inv X pins σ H' s2 ∧ Turn X.prog X.w X.K tg J fp it tn ∧ tn 0 s2.heap ∧ (∀ b ∈ fp, FpOk X pins H' b) ∧ R J H'
def PI (X : Cx) (tg iter : Expr) (wi : TI) : Prop :=
  ∀ (pins : List (Addr × Obj)) (s : Shared) (σ : St) (H : Hp) (R : It → Hp → Prop), Inv X pins σ H s → wi σ H R →
    wpAny (model X.prog X.w) X.A (eval iter X.env) (fun v s1 => wpAny (model X.prog X.w) X.A (pyIter v) (PIE X pins σ tg R) X.xe s1) X.xe s
theorem go_of {M : Model} {A : Around} {E : Value → Shared → Prop} {s : Shared} {tg : Expr} {it : Addr} {u : Value} {o : Obj} {n : String} {vs : Array Value} {Q : Unit → Shared → Prop} (ho : s.heap.get? it = some o) (hc : o.cls = .type n) (hd : o.data = .fields vs)
    (hn : ["enumerate", "zip", "dict_itemiterator", "dict_reverseitemiterator", "odict_iterator", "itertools.zip_longest", "itertools.pairwise"].contains n = false) (hQ : Q () s) : wpAny M A (letOwnedTupleGo tg (.ref it) u) Q E s := by
  unfold letOwnedTupleGo
  cases tg <;> first
    | exact wpAny_pure hQ
    | (cases u <;> first
        | exact wpAny_pure hQ
        | (refine wpAny_bind (wpAny_load ho ?_)
           rw [hc, hd]
           show wpAny M A (if (["enumerate", "zip", "dict_itemiterator", "dict_reverseitemiterator", "odict_iterator", "itertools.zip_longest", "itertools.pairwise"].contains n && vs[0]? == some (rawInt _)) = true then _ else _) Q E s
           rw [if_neg (by intro h; rw [hn, Bool.false_and] at h; cases h)]
           exact wpAny_pure hQ))
def Itl (K : PySem.W.Frag) (a : Addr) : It :=
  ⟨fun i H => ∃ xs x, SqL K H a xs ∧ xs[i]? = some x, fun i H x H' => H' = H ∧ ∀ xs, SqL K H a xs → xs[i]? = some x, fun i H => ∃ xs, SqL K H a xs ∧ xs.length ≤ i⟩
def Itr (lo : Int) (n : Nat) : It := ⟨fun i _ => i < n, fun i H x H' => H' = H ∧ x = .int (lo + i), fun i _ => n ≤ i⟩
theorem turn_list {P : Program} {w : World} {K : PySem.W.Frag} {tg : Expr} (a it : Addr) : Turn P w K tg (Itl K a) [it] it (fun i h => h.IsListIter it a i) where
  mem := by simp
  obj := fun i h st b hb => by
    have e : b = it := by simpa using hb
    subst e
    obtain ⟨o, e, c, d⟩ := st
    exact ⟨o, e, fun v z => by rw [d] at z; cases z⟩
  keep := fun i h h' st k => st.at fun o e => k it (by simp) o e
  item := by
    intro X hP hw hK hc i pins s σ H E I hf st hg
    subst hP hw hK
    obtain ⟨xs, x, hq, hx⟩ := hg
    obtain ⟨its, rv, p, hz⟩ := I.list hq
    obtain ⟨u, hu, ru⟩ := rv.get hx
    obtain ⟨f0, f1, f2, f3, f4, f5⟩ := hf it (by simp)
    refine wpAny_pyNext_list_item st p.isList (x := u) (by simpa using hu) fun h' st' sb => ?_
    have I1 : Inv X pins σ H { s with heap := h' } := I.turned (t' := s.toks) (fun b o hb e => (sb.2 b hb).trans e) f0 f1 f3 f4 f5
    obtain ⟨o, e, c, d⟩ := id st'
    exact ⟨u, rfl, go_of (s := { s with heap := h' }) e c d (by decide) ⟨x, H, I1, ru, ⟨rfl, fun ys hy => by rw [I.list_inj hy hq]; exact hx⟩, st', fun b hb => (hf b hb).1⟩⟩
  done := by
    intro X hP hw hK hc i pins s σ H E I hf st hg
    subst hP hw hK
    obtain ⟨xs, hq, hx⟩ := hg
    obtain ⟨its, rv, p, hz⟩ := I.list hq
    obtain ⟨f0, f1, f2, f3, f4, f5⟩ := hf it (by simp)
    have hl := rv.length
    exact wpAny_pyNext_list_end (I.ok.hd hc) st p.isList (by simp; omega) fun h' eb => ⟨rfl, I.turned (t' := s.toks) (fun b o hb e => eb b o hb e) f0 f1 f3 f4 f5⟩
  self := fun _ _ _ _ _ st h => wpAny_pyIter_listiter st h
theorem turn_range {P : Program} {w : World} {K : PySem.W.Frag} {tg : Expr} (it : Addr) (lo : Int) (n : Nat) : Turn P w K tg (Itr lo n) [it] it (fun i h => IsRangeIter h it (lo + (i : Nat) * 1) ((n : Int) - (i : Nat)) 1) where
  mem := by simp
  obj := fun i h st b hb => by
    have e : b = it := by simpa using hb
    subst e
    exact ⟨_, st, fun v z => by
      have z' : Data.fields _ = Data.cell v := z
      cases z'⟩
  keep := fun i h h' st k => k it (by simp) _ st
  item := by
    intro X hP hw hK hc i pins s σ H E I hf st hg
    subst hP hw hK
    obtain ⟨f0, f1, f2, f3, f4, f5⟩ := hf it (by simp)
    have W := Walks.range (prog := X.prog) (w := X.w) (I.ok.hd hc) it lo 1 n
    refine W.item i s _ _ hg st fun v h' tk hv st' kk => ?_
    obtain ⟨t, rfl⟩ := hv
    have I1 : Inv X pins σ H { s with heap := h', toks := tk } := I.turned (fun b o hb e => kk b o (by simpa using hb) e) f0 f1 f3 f4 f5
    refine ⟨_, rfl, go_of (s := { s with heap := h', toks := tk }) (n := "range_iterator") st' rfl rfl (by decide) ⟨.int (lo + i), H, I1, ⟨t, ?_⟩, ⟨rfl, rfl⟩, st', fun b hb => (hf b hb).1⟩⟩
    rw [Int.mul_one]
  done := by
    intro X hP hw hK hc i pins s σ H E I hf st hg
    subst hP hw hK
    obtain ⟨f0, f1, f2, f3, f4, f5⟩ := hf it (by simp)
    exact wpAny_pyNext_range_end (I.ok.hd hc) st (by have : n ≤ i := hg; omega) fun h' eb => ⟨rfl, I.turned (t' := s.toks) (fun b o hb e => eb b o hb e) f0 f1 f3 f4 f5⟩
  self := fun _ _ _ _ _ st h => wpAny_pyIter_rangeiter st h
end L2
namespace L2
open PySem PySem.Spec PyProof.Rows
section
variable {X : Cx} {tg : Expr}
def iList (K : PySem.W.Frag) (tl : TE) : TI := fun σ H R => tl σ H fun x H1 => ∃ a, x = .ref a ∧ (∃ xs, SqL K H1 a xs) ∧ R (Itl K a) H1
theorem pi_list {l : Expr} {tl : TE} (hl : PE X l tl) : PI X tg l (iList X.K tl) := by
  intro pins s σ H R I h
  refine thn (hl pins s σ H _ I h) fun v s1 ⟨x, H1, I1, r1, q1⟩ => ?_
  obtain ⟨a, e, ⟨xs, hq⟩, q⟩ := q1
  subst e
  cases r1
  obtain ⟨its, rv, p, hz⟩ := I1.list hq
  refine wpAny_pyIter_list p.isList ?_
  refine ⟨s1.heap.objs.size, [s1.heap.objs.size], _, _, H1, rfl, I1.kept (t' := s1.toks) fun b o e => Heap.get?_push_of_some _ e, turn_list a _, ⟨_, Heap.get?_push_size _ rfl, rfl, rfl⟩, fun b hb => ?_, q⟩
  have e : b = s1.heap.objs.size := by simpa using hb
  subst e
  exact I1.fpOk (Nat.le_refl _) (I1.hok.fresh (Nat.le_refl _))
theorem range_it {pins : List (Addr × Obj)} {σ : St} {H : Hp} {s : Shared} {R : It → Hp → Prop} {E : Value → Shared → Prop} {lo hi : Int} {t u v : Tok} {tk : Nat} (I : Inv X pins σ H s) (h1 : -(2 ^ 62) ≤ lo) (h2 : lo < 2 ^ 62) (h3 : -(2 ^ 62) ≤ hi) (h4 : hi < 2 ^ 62)
    (q : R (Itr lo (hi - lo).toNat) H) : wpAny (model X.prog X.w) X.A (pyIter (.ref s.heap.objs.size)) (PIE X pins σ tg R) E { s with heap := s.heap.push { cls := .type "range", data := .fields #[.int lo t, .int hi u, .int 1 v] }, toks := tk } := by
  refine wpAny_pyIter_range (IsRange.new ..) (small_one h1 h2 h3 h4) ?_
  have I1 : Inv X pins σ H { s with heap := s.heap.push { cls := .type "range", data := .fields #[.int lo t, .int hi u, .int 1 v] }, toks := tk } := I.kept fun b o e => Heap.get?_push_of_some _ e
  refine ⟨(s.heap.push { cls := .type "range", data := .fields #[.int lo t, .int hi u, .int 1 v] }).objs.size, [(s.heap.push { cls := .type "range", data := .fields #[.int lo t, .int hi u, .int 1 v] }).objs.size], _, _, H, rfl,
    I1.kept (t' := tk) fun b o e => Heap.get?_push_of_some _ e, turn_range _ lo (hi - lo).toNat, ?_, fun b hb => ?_, q⟩
  · have e1 : lo + ((0 : Nat) : Int) * 1 = lo := by simp
    have e2 : (((hi - lo).toNat : Nat) : Int) - ((0 : Nat) : Int) = Builtin.Range.rangeSize lo hi 1 := by rw [rangeSize_one]; split <;> omega
    show IsRangeIter _ _ (lo + ((0 : Nat) : Int) * 1) ((((hi - lo).toNat : Nat) : Int) - ((0 : Nat) : Int)) 1
    rw [e1, e2]
    exact Heap.get?_push_size _ rfl
  · have e : b = (s.heap.push { cls := .type "range", data := .fields #[.int lo t, .int hi u, .int 1 v] }).objs.size := by simpa using hb
    subst e
    exact I1.fpOk (Nat.le_refl _) (I1.hok.fresh (Nat.le_refl _))
def iRng1 (ta : TA) : TI := fun σ H R => ta σ H fun vs H1 => ∃ j : Int, vs = [.int j] ∧ -(2 ^ 62) ≤ j ∧ j < 2 ^ 62 ∧ R (Itr 0 j.toNat) H1
theorem pi_range1 {a : Expr} {ta : TA} {p pos : Pos} (hg : Gl X "range") (hm : X.mg "range" = none) (ha : PA X [a] ta) (hs : starEach [a] X.env = [(false, eval a X.env)] := by rfl) : PI X tg (.Call (.Name "range" p) [a] [] pos) (iRng1 ta) := by
  intro pins s σ H R I h
  refine Call_ (ld_blt I hg hm boot_range (PyProof.Rows.callWith_type1 (thn (ha pos pins s σ H _ I h) fun us s1 ⟨vs, H1, I1, r1, q1⟩ => ?_) hs rfl))
  obtain ⟨j, e, q1, q2, q⟩ := q1
  subst e
  cases r1 with
  | cons r rr =>
    cases rr
    obtain ⟨t, rfl⟩ := r
    exact call_range_1 (range_it I1 (by omega) (by omega) q1 q2 (by simpa using q))
def tFor (wi : TI) (g : TG) (tb : TS) : TS := fun D σ H => wi σ H fun J H1 => ∃ W : Nat → Nat → St → Hp → Prop, (∃ m, W 0 m σ H1) ∧ ∀ i m σ H, W i m σ H →
  (J.stop i H ∧ D.nx σ H) ∨ (J.go i H ∧ ∃ N : St → Hp → Prop, (∀ σ' H', N σ' H' → ∃ m', m' < m ∧ W (i + 1) m' σ' H') ∧ ∀ x H', J.yld i H x H' → g x σ H' fun σ2 H2 => tb { D with nx := N, ct := N, bk := D.nx } σ2 H2)
def pinsAt (fp : List Addr) (h : Heap) : List (Addr × Obj) := fp.filterMap fun b => (h.get? b).map fun o => (b, o)
theorem mem_pinsAt {fp : List Addr} {h : Heap} {b : Addr} {o : Obj} (hb : b ∈ fp) (e : h.get? b = some o) : (b, o) ∈ pinsAt fp h := List.mem_filterMap.mpr ⟨b, hb, by rw [e]; rfl⟩
theorem of_pinsAt {fp : List Addr} {h : Heap} {p : Addr × Obj} (hp : p ∈ pinsAt fp h) : p.1 ∈ fp ∧ h.get? p.1 = some p.2 := by
  obtain ⟨b, hb, e⟩ := List.mem_filterMap.mp hp
  cases q : h.get? b with
  | none => rw [q] at e; cases e
  | some o =>
    rw [q] at e
    have e' : (b, o) = p := Option.some.inj e
    subst e'
    exact ⟨hb, q⟩
theorem Inv.pinned {pins : List (Addr × Obj)} {σ : St} {H : Hp} {s : Shared} {fp : List Addr} (I : Inv X pins σ H s) (hf : ∀ b ∈ fp, FpOk X pins H b) (ho : ∀ b ∈ fp, ∃ o, s.heap.get? b = some o ∧ ∀ v, o.data ≠ .cell v) : Inv X (pins ++ pinsAt fp s.heap) σ H s :=
  I.pins_of fun p hp => (List.mem_append.mp hp).elim (fun z => I.pin p (List.mem_append_right _ z)) fun z => by
    obtain ⟨hb, e⟩ := of_pinsAt z
    obtain ⟨f0, f1, f2, _⟩ := hf p.1 hb
    obtain ⟨o, e', d⟩ := ho p.1 hb
    rw [e] at e'; cases e'
    exact ⟨e, f0, f1, f2, d⟩
theorem Inv.unpinned {pins pl : List (Addr × Obj)} {σ : St} {H : Hp} {s : Shared} (I : Inv X (pins ++ pl) σ H s) : Inv X pins σ H s := I.pins_of fun p hp => I.pin p (List.mem_append_right _ (List.mem_append_left _ hp))
theorem ps_for {iter : Expr} {body : List Stmt} {wi : TI} {g : TG} {tb : TS} {pos : Pos} (hp : PassesOwn (model X.prog X.w) X.A X.env X.xe) (hc : X.calm = true) (hi : PI X tg iter wi) (hg : PG X tg g) (hb : PSs X body tb)
    (hs : ∀ x, foldedSetIterable iter X.env x = pure x := by intro _; rfl) : PS X (.For tg iter body [] pos) (tFor wi g tb) := by
  intro pins s σ H D I h
  refine wpAny_For (thn (hi pins s σ H _ I h) fun v s1 h1 => thn h1 fun itv s2 h2 => ?_) hs
  obtain ⟨it, fp, tn, J, H2, e, I2, T, st2, f2, W, ⟨m0, w0⟩, turn⟩ := h2
  subst e
  have stat : ∀ {H' : Hp}, (∀ b ∈ fp, H' b = none) → ∀ b ∈ fp, FpOk X pins H' b := fun hn b hb => ⟨hn b hb, (f2 b hb).2⟩
  refine codeAny_forLoop_any (fun n s' => ∃ i σ' H', Inv X pins σ' H' s' ∧ tn i s'.heap ∧ (∀ b ∈ fp, H' b = none) ∧ W i n σ' H') ?_ m0 ⟨0, σ, H2, I2, st2, fun b hb => (f2 b hb).1, w0⟩
  rintro n s3 ⟨i, σ3, H3, I3, st3, fr3, w3⟩
  rcases turn i n σ3 H3 w3 with ⟨stop, qn⟩ | ⟨go, N, hN, step⟩
  · refine wpAny_passesOwn hp (thn (T.done X rfl rfl rfl hc i pins s3 σ3 H3 X.xe I3 (stat fr3) st3 stop) fun r s4 ⟨hr, I4⟩ => ?_)
    subst hr
    exact wpAny_execs_nil ⟨σ3, H3, I4, qn⟩
  · refine wpAny_passesOwn hp (thn (T.item X rfl rfl rfl hc i pins s3 σ3 H3 X.xe I3 (stat fr3) st3 go) fun r s4 ⟨u, hr, h4⟩ => ?_)
    subst hr
    refine wpAny_passesOwn hp (thn h4 fun _ s5 ⟨x, H5, I5, r5, y5, st5, fr5⟩ => ?_)
    have I5' := I5.pinned (stat fr5) (T.obj _ _ st5)
    refine wpAny_passesOwn hp (thn (hg _ s5 σ3 H5 x u _ I5' r5 (step x H5 y5)) fun _ s6 ⟨σ6, H6, I6, q6⟩ => ?_)
    refine wpAny_passesOwn hp (thn (hb _ s6 σ6 H6 _ I6 q6) fun f s7 q7 => ?_)
    have again : ∀ {σ7 : St} {H7 : Hp}, Inv X (pins ++ pinsAt fp s5.heap) σ7 H7 s7 → N σ7 H7 → ∃ m, m < n ∧ ∃ i σ' H', Inv X pins σ' H' s7 ∧ tn i s7.heap ∧ (∀ b ∈ fp, H' b = none) ∧ W i m σ' H' := fun {σ7 H7} I7 n7 => by
      obtain ⟨m', hm, w7⟩ := hN σ7 H7 n7
      refine ⟨m', hm, i + 1, σ7, H7, I7.unpinned, T.keep _ _ _ st5 fun b hb o e => (I7.pin (b, o) (List.mem_append_right _ (List.mem_append_right _ (mem_pinsAt hb e)))).1, fun b hb => ?_, w7⟩
      obtain ⟨o, e, d⟩ := T.obj _ _ st5 b hb
      exact (I7.pin (b, o) (List.mem_append_right _ (List.mem_append_right _ (mem_pinsAt hb e)))).2.1
    cases f with
    | next => obtain ⟨σ7, H7, I7, n7⟩ := q7; exact again I7 n7
    | cont => obtain ⟨σ7, H7, I7, n7⟩ := q7; exact again I7 n7
    | brk => obtain ⟨σ7, H7, I7, q7⟩ := q7; exact ⟨σ7, H7, I7.unpinned, q7⟩
    | ret v => obtain ⟨x7, σ7, H7, I7, r7, q7⟩ := q7; exact ⟨x7, σ7, H7, I7.unpinned, r7, q7⟩
end
theorem for_list {K : PySem.W.Frag} {a : Addr} {xs : List V} {g : TG} {tb : TS} {D : Ends} {σ : St} {H : Hp} (Pv : Nat → St → Hp → Prop) (h0 : Pv 0 σ H) (hl : ∀ i σ H, i ≤ xs.length → Pv i σ H → SqL K H a xs)
    (hs : ∀ i x σ H, xs[i]? = some x → Pv i σ H → g x σ H fun σ2 H2 => tb { D with nx := Pv (i + 1), ct := Pv (i + 1), bk := D.nx } σ2 H2) (hd : ∀ σ H, Pv xs.length σ H → D.nx σ H) :
    ∃ W : Nat → Nat → St → Hp → Prop, (∃ m, W 0 m σ H) ∧ ∀ i m σ H, W i m σ H →
      ((Itl K a).stop i H ∧ D.nx σ H) ∨ ((Itl K a).go i H ∧ ∃ N : St → Hp → Prop, (∀ σ' H', N σ' H' → ∃ m', m' < m ∧ W (i + 1) m' σ' H') ∧ ∀ x H', (Itl K a).yld i H x H' → g x σ H' fun σ2 H2 => tb { D with nx := N, ct := N, bk := D.nx } σ2 H2) := by
  refine ⟨fun i m σ H => m = xs.length - i ∧ i ≤ xs.length ∧ Pv i σ H, ⟨xs.length, by simp, Nat.zero_le _, h0⟩, ?_⟩
  rintro i m σ H ⟨rfl, hi, p⟩
  have q := hl i σ H hi p
  by_cases hlt : i < xs.length
  · refine .inr ⟨⟨xs, xs[i], q, by simp [hlt]⟩, Pv (i + 1), fun σ' H' p' => ⟨xs.length - (i + 1), by omega, rfl, hlt, p'⟩, fun x H' y => ?_⟩
    obtain ⟨e, y⟩ := y
    subst e
    exact hs i x σ _ (y xs q) p
  · have e : i = xs.length := by omega
    subst e
    exact .inl ⟨⟨xs, q, Nat.le_refl _⟩, hd σ H p⟩
theorem for_range {lo : Int} {n : Nat} {g : TG} {tb : TS} {D : Ends} {σ : St} {H : Hp} (Pv : Nat → St → Hp → Prop) (h0 : Pv 0 σ H)
    (hs : ∀ i σ H, i < n → Pv i σ H → g (.int (lo + i)) σ H fun σ2 H2 => tb { D with nx := Pv (i + 1), ct := Pv (i + 1), bk := D.nx } σ2 H2) (hd : ∀ σ H, Pv n σ H → D.nx σ H) :
    ∃ W : Nat → Nat → St → Hp → Prop, (∃ m, W 0 m σ H) ∧ ∀ i m σ H, W i m σ H →
      ((Itr lo n).stop i H ∧ D.nx σ H) ∨ ((Itr lo n).go i H ∧ ∃ N : St → Hp → Prop, (∀ σ' H', N σ' H' → ∃ m', m' < m ∧ W (i + 1) m' σ' H') ∧ ∀ x H', (Itr lo n).yld i H x H' → g x σ H' fun σ2 H2 => tb { D with nx := N, ct := N, bk := D.nx } σ2 H2) := by
  refine ⟨fun i m σ H => m = n - i ∧ i ≤ n ∧ Pv i σ H, ⟨n, by simp, Nat.zero_le _, h0⟩, ?_⟩
  rintro i m σ H ⟨rfl, hi, p⟩
  by_cases hlt : i < n
  · refine .inr ⟨hlt, Pv (i + 1), fun σ' H' p' => ⟨n - (i + 1), by omega, rfl, hlt, p'⟩, fun x H' y => ?_⟩
    obtain ⟨e, y⟩ := y
    subst e y
    exact hs i σ _ hlt p
  · have e : i = n := by omega
    subst e
    exact .inl ⟨Nat.le_refl _, hd σ H p⟩
theorem while_by {c : TT} {tb : TS} {D : Ends} {σ : St} {H : Hp} (Pv : St → Hp → Prop) (μ : St → Hp → Nat) (h0 : Pv σ H)
    (hs : ∀ σ H, Pv σ H → c σ H fun b H1 => if b = true then tb { D with nx := fun σ' H' => Pv σ' H' ∧ μ σ' H' < μ σ H, ct := fun σ' H' => Pv σ' H' ∧ μ σ' H' < μ σ H, bk := D.nx } σ H1 else D.nx σ H1)
    (mono : ∀ σ H Q Q', (∀ b H1, Q b H1 → Q' b H1) → c σ H Q → c σ H Q') : tWhile c tb D σ H := by
  refine ⟨fun m σ H => m = μ σ H ∧ Pv σ H, ⟨_, rfl, h0⟩, ?_⟩
  rintro m σ H ⟨rfl, p⟩
  refine mono σ H _ _ (fun b H1 q => ?_) (hs σ H p)
  cases b with
  | true => exact ⟨_, fun σ' H' ⟨p', l⟩ => ⟨_, l, rfl, p'⟩, q⟩
  | false => exact q
end L2
namespace L2
open PySem PySem.Spec PyProof.Rows
abbrev R2 := V → V → Hp → VK → Prop
def OpR (X : Cx) (f : Value → Value → Sem Value) (r : R2) : Prop :=
  ∀ (pins : List (Addr × Obj)) (s : Shared) (σ : St) (H : Hp) (x y : V) (v u : Value) (Q : VK), Inv X pins σ H s → RelV x v → RelV y u → r x y H Q →
    wpAny (model X.prog X.w) X.A (f v u) (EP X pins σ Q) X.xe s
def UnR (X : Cx) (f : Value → Sem Value) (r : V → Hp → VK → Prop) : Prop :=
  ∀ (pins : List (Addr × Obj)) (s : Shared) (σ : St) (H : Hp) (x : V) (v : Value) (Q : VK), Inv X pins σ H s → RelV x v → r x H Q →
    wpAny (model X.prog X.w) X.A (f v) (EP X pins σ Q) X.xe s
def CallR (X : Cx) (f : Value) (r : List V → Hp → VK → Prop) : Prop :=
  ∀ (pins : List (Addr × Obj)) (s : Shared) (σ : St) (H : Hp) (xs : List V) (us : List Value) (Q : VK), Inv X pins σ H s → Vals xs us → r xs H Q →
    wpAny (model X.prog X.w) X.A (call f us) (EP X pins σ Q) X.xe s
def tOp (r : R2) (ta tb : TE) : TE := fun σ H Q => ta σ H fun x H1 => tb σ H1 fun y H2 => r x y H2 Q
def tUn (r : V → Hp → VK → Prop) (ta : TE) : TE := fun σ H Q => ta σ H fun x H1 => r x H1 Q
def rI (C : Int → Int → Prop) (g : Int → Int → V) : R2 := fun x y H Q => ∃ i j, x = .int i ∧ y = .int j ∧ C i j ∧ Q (g i j) H
def rI0 (g : Int → Int → V) : R2 := fun x y H Q => ∃ i j, x = .int i ∧ y = .int j ∧ Q (g i j) H
def rU (g : Int → V) : V → Hp → VK → Prop := fun x H Q => ∃ i, x = .int i ∧ Q (g i) H
section
variable {X : Cx} {a b c : Expr} {ta tb tc : TE} {pos : Pos}
theorem binT (ha : PE X a ta) (hb : PE X b tb) {pins : List (Addr × Obj)} {s : Shared} {σ : St} {H : Hp} {R : V → V → Hp → Prop} (I : Inv X pins σ H s)
    (h : ta σ H fun x H1 => tb σ H1 fun y H2 => R x y H2) {Q : Value → Shared → Prop} {f : Value → Value → Sem Value}
    (hf : ∀ v u s2 x y H2, Inv X pins σ H2 s2 → RelV x v → RelV y u → R x y H2 → wpAny (model X.prog X.w) X.A (f v u) Q X.xe s2) :
    wpAny (model X.prog X.w) X.A (eval a X.env) (fun v s₁ => wpAny (model X.prog X.w) X.A (eval b X.env) (fun u s₂ => wpAny (model X.prog X.w) X.A (f v u) Q X.xe s₂) X.xe s₁) X.xe s := by
  refine thn (ha pins s σ H _ I h) fun v s1 ⟨x, H1, I1, r1, q1⟩ => ?_
  refine thn (hb pins s1 σ H1 _ I1 q1) fun u s2 ⟨y, H2, I2, r2, q2⟩ => ?_
  exact hf v u s2 x y H2 I2 r1 r2 q2
theorem pe_op {op : Operator} {r : R2} (ho : OpR X (binaryOp op) r) (ha : PE X a ta) (hb : PE X b tb) : PE X (.BinOp a op b pos) (tOp r ta tb) := by
  intro pins s σ H Q I h
  exact wpAny_BinOp (binT ha hb I h fun v u s2 x y H2 I2 rx ry q => ho pins s2 σ H2 x y v u Q I2 rx ry q)
theorem pe_un {op : UnaryOp} {r : V → Hp → VK → Prop} (ho : UnR X (unaryOp op) r) (ha : PE X a ta) : PE X (.UnaryOp op a pos) (tUn r ta) := by
  intro pins s σ H Q I h
  exact UnaryOp_ (thn (ha pins s σ H _ I h) fun v s1 ⟨x, H1, I1, r1, q1⟩ => ho pins s1 σ H1 x v Q I1 r1 q1)
theorem opI {f : Value → Value → Sem Value} {C : Int → Int → Prop} {g : Int → Int → Int}
    (rule : ∀ (i j : Int) (t u : Tok) (s : Shared) (Q : Value → Shared → Prop) (E : Value → Shared → Prop), C i j → Q (.int (g i j) s.toks) { s with toks := s.toks + 1 } → wpAny (model X.prog X.w) X.A (f (.int i t) (.int j u)) Q E s) :
    OpR X f (rI C fun i j => .int (g i j)) := by
  intro pins s σ H x y v u Q I rx ry h
  obtain ⟨i, j, rfl, rfl, hc, q⟩ := h
  obtain ⟨t, rfl⟩ := rx
  obtain ⟨t', rfl⟩ := ry
  exact rule i j t t' s _ _ hc ⟨.int (g i j), H, I.tok _, ⟨_, rfl⟩, q⟩
theorem opI0 {f : Value → Value → Sem Value} {g : Int → Int → Int}
    (rule : ∀ (i j : Int) (t u : Tok) (s : Shared) (Q : Value → Shared → Prop) (E : Value → Shared → Prop), Q (.int (g i j) s.toks) { s with toks := s.toks + 1 } → wpAny (model X.prog X.w) X.A (f (.int i t) (.int j u)) Q E s) :
    OpR X f (rI0 fun i j => .int (g i j)) := by
  intro pins s σ H x y v u Q I rx ry h
  obtain ⟨i, j, rfl, rfl, q⟩ := h
  obtain ⟨t, rfl⟩ := rx
  obtain ⟨t', rfl⟩ := ry
  exact rule i j t t' s _ _ ⟨.int (g i j), H, I.tok _, ⟨_, rfl⟩, q⟩
theorem opB0 {f : Value → Value → Sem Value} {g : Int → Int → Bool}
    (rule : ∀ (i j : Int) (t u : Tok) (s : Shared) (Q : Value → Shared → Prop) (E : Value → Shared → Prop), Q (.bool (g i j)) s → wpAny (model X.prog X.w) X.A (f (.int i t) (.int j u)) Q E s) :
    OpR X f (rI0 fun i j => .bl (g i j)) := by
  intro pins s σ H x y v u Q I rx ry h
  obtain ⟨i, j, rfl, rfl, q⟩ := h
  obtain ⟨t, rfl⟩ := rx
  obtain ⟨t', rfl⟩ := ry
  exact rule i j t t' s _ _ ⟨.bl (g i j), H, I, rfl, q⟩
def CPow (i j : Int) : Prop := 0 ≤ j ∧ j ≤ 1000000 ∧ i.natAbs < 2 ^ 64
def CMul (i j : Int) : Prop := (-(2 ^ 64) < i ∧ i < 2 ^ 64) ∨ (-(2 ^ 64) < j ∧ j < 2 ^ 64)
theorem CMul.ok {i j : Int} (h : CMul i j) : IntMulOk i j := by
  rcases h with ⟨h1, h2⟩ | ⟨h1, h2⟩
  · exact .of_left (intBits_le_64 h1 h2)
  · exact .of_right (intBits_le_64 h1 h2)
theorem two_pow_nn (k : Nat) : (0 : Int) ≤ 2 ^ k := by
  rw [two_pow_cast]
  exact Int.natCast_nonneg _
theorem op_add : OpR X (binaryOp .Add) (rI0 fun i j => .int (i + j)) := opI0 fun _ _ _ _ _ _ _ q => add_int q
theorem op_sub : OpR X (binaryOp .Sub) (rI0 fun i j => .int (i - j)) := opI0 fun _ _ _ _ _ _ _ q => sub_int q
theorem op_mul : OpR X (binaryOp .Mult) (rI CMul fun i j => .int (i * j)) := opI fun _ _ _ _ _ _ _ hc q => mul_int q hc.ok
theorem op_shr : OpR X (binaryOp .RShift) (rI (fun _ j => 0 ≤ j) fun i j => .int (i / 2 ^ j.toNat)) := opI fun i j _ _ _ _ _ hc q =>
  rshift_int hc (by rw [Int.fdiv_eq_ediv_of_nonneg i (two_pow_nn _)]; exact q)
theorem op_and : OpR X (binaryOp .BitAnd) (rI0 fun i j => .int (Builtin.bitAnd i j)) := opI0 fun _ _ _ _ _ _ _ q => and_int q
theorem op_or : OpR X (binaryOp .BitOr) (rI0 fun i j => .int (Builtin.bitOr i j)) := opI0 fun _ _ _ _ _ _ _ q => or_int q
theorem op_xor : OpR X (binaryOp .BitXor) (rI0 fun i j => .int (Builtin.bitXor i j)) := opI0 fun _ _ _ _ _ _ _ q => xor_int q
theorem iop_add : OpR X (inplaceOp .Add) (rI0 fun i j => .int (i + j)) := opI0 fun _ _ _ _ _ _ _ q => iadd_int q
theorem iop_shl : OpR X (inplaceOp .LShift) (rI CPow fun i j => .int (i * 2 ^ j.toNat)) := opI fun _ _ _ _ _ _ _ hc q => ilshift_int_small hc.1 hc.2.1 hc.2.2 q
theorem iop_xor : OpR X (inplaceOp .BitXor) (rI0 fun i j => .int (Builtin.bitXor i j)) := opI0 fun _ _ _ _ _ _ _ q => ixor_int q
theorem unI {f : Value → Sem Value} {g : Int → Int}
    (rule : ∀ (i : Int) (t : Tok) (s : Shared) (Q : Value → Shared → Prop) (E : Value → Shared → Prop), Q (.int (g i) s.toks) { s with toks := s.toks + 1 } → wpAny (model X.prog X.w) X.A (f (.int i t)) Q E s) :
    UnR X f (rU fun i => .int (g i)) := by
  intro pins s σ H x v Q I rx h
  obtain ⟨i, rfl, q⟩ := h
  obtain ⟨t, rfl⟩ := rx
  exact rule i t s _ _ ⟨.int (g i), H, I.tok _, ⟨_, rfl⟩, q⟩
theorem un_neg : UnR X (unaryOp .USub) (rU fun i => .int (-i)) := unI fun _ _ _ _ _ q => neg_int q
end
def scal : V → V → Bool
  | .non, .non => true | .non, .int _ => true | .int _, .non => true | .non, .bl _ => true | .bl _, .non => true | .non, .str _ => true | .str _, .non => true
  | .int _, .int _ => true | .bl _, .bl _ => true | .str _, .str _ => true | .byt _, .byt _ => true
  | .int _, .str _ => true | .str _, .int _ => true | .bl _, .str _ => true | .str _, .bl _ => true
  | _, _ => false
def rEq : R2 := fun x y H Q => scal x y = true ∧ Q (.bl (decide (x = y))) H
def rNe : R2 := fun x y H Q => scal x y = true ∧ Q (.bl (!decide (x = y))) H
theorem dec_int {i j : Int} : decide (V.int i = V.int j) = (i == j) := by
  rw [Bool.eq_iff_iff]
  simp
theorem dec_bl {i j : Bool} : decide (V.bl i = V.bl j) = (i == j) := by
  rw [Bool.eq_iff_iff]
  simp
theorem dec_str {i j : Str} : decide (V.str i = V.str j) = (i == j) := by
  rw [Bool.eq_iff_iff]
  simp
theorem dec_byt {i j : Array UInt8} : decide (V.byt i = V.byt j) = (i.toList == j.toList) := by
  rw [Bool.eq_iff_iff]
  cases i
  cases j
  simp
section
variable {X : Cx} {a b c : Expr} {ta tb tc : TE} {pos : Pos}
theorem fin_bl {pins : List (Addr × Obj)} {σ : St} {H : Hp} {s : Shared} {Q : VK} {k k' : Bool} (I : Inv X pins σ H s) (q : Q (.bl k) H) (e : k = k') : EP X pins σ Q (.bool k') s := by
  subst e
  exact ⟨.bl k, H, I, rfl, q⟩
theorem op_eq : OpR X (compareOp .Eq) rEq := by
  intro pins s σ H x y v u Q I rx ry h
  obtain ⟨hs, q⟩ := h
  cases x with
  | non =>
    cases rx
    cases y with
    | non => cases ry; exact PySem.EqNone.eq_none_none (fin_bl I q (by simp))
    | bl j => cases ry; exact PySem.EqNone.eq_none_bool (fin_bl I q (by simp))
    | int j => obtain ⟨t', rfl⟩ := ry; exact PySem.EqNone.eq_none_int (fin_bl I q (by simp))
    | str j => obtain ⟨t', rfl⟩ := ry; exact PySem.EqNone.eq_none_str (fin_bl I q (by simp))
    | _ => exact absurd (show false = true from hs) Bool.false_ne_true
  | bl i =>
    cases rx
    cases y with
    | non => cases ry; exact PySem.EqNone.eq_bool_none (fin_bl I q (by simp))
    | bl j => cases ry; exact eq_bool (fin_bl I q dec_bl)
    | str j => obtain ⟨t', rfl⟩ := ry; exact PySem.EqMixed.eq_bool_str (fin_bl I q (by simp))
    | _ => exact absurd (show false = true from hs) Bool.false_ne_true
  | int i =>
    obtain ⟨t, rfl⟩ := rx
    cases y with
    | non => cases ry; exact PySem.EqNone.eq_int_none (fin_bl I q (by simp))
    | int j => obtain ⟨t', rfl⟩ := ry; exact eq_int (fin_bl I q dec_int)
    | str j => obtain ⟨t', rfl⟩ := ry; exact PySem.EqMixed.eq_int_str (fin_bl I q (by simp))
    | _ => exact absurd (show false = true from hs) Bool.false_ne_true
  | str i =>
    obtain ⟨t, rfl⟩ := rx
    cases y with
    | non => cases ry; exact PySem.EqNone.eq_str_none (fin_bl I q (by simp))
    | bl j => cases ry; exact PySem.EqMixed.eq_str_bool (fin_bl I q (by simp))
    | int j => obtain ⟨t', rfl⟩ := ry; exact PySem.EqMixed.eq_str_int (fin_bl I q (by simp))
    | str j => obtain ⟨t', rfl⟩ := ry; exact eq_str (fin_bl I q dec_str)
    | _ => exact absurd (show false = true from hs) Bool.false_ne_true
  | byt i =>
    obtain ⟨t, rfl⟩ := rx
    cases y with
    | byt j => obtain ⟨t', rfl⟩ := ry; exact PySem.W.eq_bytes (fin_bl I q dec_byt)
    | _ => exact absurd (show false = true from hs) Bool.false_ne_true
  | _ => cases y <;> exact absurd (show false = true from hs) Bool.false_ne_true
theorem op_ne : OpR X (compareOp .NotEq) rNe := by
  intro pins s σ H x y v u Q I rx ry h
  obtain ⟨hs, q⟩ := h
  cases x with
  | non =>
    cases rx
    cases y with
    | non => cases ry; exact PySem.EqNone.ne_none_none (fin_bl I q (by simp))
    | bl j => cases ry; exact PySem.EqNone.ne_none_bool (fin_bl I q (by simp))
    | int j => obtain ⟨t', rfl⟩ := ry; exact PySem.EqNone.ne_none_int (fin_bl I q (by simp))
    | str j => obtain ⟨t', rfl⟩ := ry; exact PySem.EqNone.ne_none_str (fin_bl I q (by simp))
    | _ => exact absurd (show false = true from hs) Bool.false_ne_true
  | bl i =>
    cases rx
    cases y with
    | non => cases ry; exact PySem.EqNone.ne_bool_none (fin_bl I q (by simp))
    | bl j => cases ry; exact ne_bool (fin_bl I q (congrArg not dec_bl))
    | str j => obtain ⟨t', rfl⟩ := ry; exact PySem.EqMixed.ne_bool_str (fin_bl I q (by simp))
    | _ => exact absurd (show false = true from hs) Bool.false_ne_true
  | int i =>
    obtain ⟨t, rfl⟩ := rx
    cases y with
    | non => cases ry; exact PySem.EqNone.ne_int_none (fin_bl I q (by simp))
    | int j => obtain ⟨t', rfl⟩ := ry; exact ne_int (fin_bl I q (congrArg not dec_int))
    | str j => obtain ⟨t', rfl⟩ := ry; exact PySem.EqMixed.ne_int_str (fin_bl I q (by simp))
    | _ => exact absurd (show false = true from hs) Bool.false_ne_true
  | str i =>
    obtain ⟨t, rfl⟩ := rx
    cases y with
    | non => cases ry; exact PySem.EqNone.ne_str_none (fin_bl I q (by simp))
    | bl j => cases ry; exact PySem.EqMixed.ne_str_bool (fin_bl I q (by simp))
    | int j => obtain ⟨t', rfl⟩ := ry; exact PySem.EqMixed.ne_str_int (fin_bl I q (by simp))
    | str j => obtain ⟨t', rfl⟩ := ry; exact ne_str (fin_bl I q (congrArg not dec_str))
    | _ => exact absurd (show false = true from hs) Bool.false_ne_true
  | byt i =>
    obtain ⟨t, rfl⟩ := rx
    cases y with
    | byt j => obtain ⟨t', rfl⟩ := ry; exact PySem.W.ne_bytes (fin_bl I q (congrArg not dec_byt))
    | _ => exact absurd (show false = true from hs) Bool.false_ne_true
  | _ => cases y <;> exact absurd (show false = true from hs) Bool.false_ne_true
theorem op_lt : OpR X (compareOp .Lt) (rI0 fun i j => .bl (decide (i < j))) := opB0 fun _ _ _ _ _ _ _ q => lt_int q
theorem op_le : OpR X (compareOp .LtE) (rI0 fun i j => .bl (decide (i ≤ j))) := opB0 fun _ _ _ _ _ _ _ q => le_int q
theorem op_gt : OpR X (compareOp .Gt) (rI0 fun i j => .bl (decide (j < i))) := opB0 fun _ _ _ _ _ _ _ q => gt_int q
theorem op_ge : OpR X (compareOp .GtE) (rI0 fun i j => .bl (decide (j ≤ i))) := opB0 fun _ _ _ _ _ _ _ q => ge_int q
theorem op_isN : OpR X (compareOp .Is) (fun x y H Q => y = .non ∧ Q (.bl (decide (x = .non))) H) := by
  intro pins s σ H x y v u Q I rx ry h
  obtain ⟨rfl, q⟩ := h
  cases ry
  refine is_none_gen (fin_bl I q ?_)
  cases x <;> first
    | (cases rx; rfl)
    | (obtain ⟨t, rfl⟩ := rx; rfl)
theorem nomark (b : Expr) {op : CmpOp} (h : op ≠ .In := by decide) (h2 : op ≠ .NotIn := by decide) : behindInMarks op b = false := by
  have e1 : (op == CmpOp.In) = false := by cases op <;> first | rfl | exact absurd rfl h
  have e2 : (op == CmpOp.NotIn) = false := by cases op <;> first | rfl | exact absurd rfl h2
  cases b <;> simp [behindInMarks, e1, e2]
theorem pe_cmpR {op : CmpOp} {r : R2} (ho : OpR X (compareOp op) r) (ha : PE X a ta) (hb : PE X b tb) (hm : behindInMarks op b = false) : PE X (.Compare a [op] [b] pos) (tOp r ta tb) := by
  intro pins s σ H Q I h
  exact wpAny_Compare1 (binT ha hb I h fun v u s2 x y H2 I2 rx ry q => ho pins s2 σ H2 x y v u Q I2 rx ry q) hm
def tTest (t : TE) : TT := fun σ H Q => t σ H fun x H' => ∃ k, x = .bl k ∧ Q k H'
theorem pt_cmpR {op : CmpOp} {r : R2} (ho : OpR X (compareOp op) r) (ha : PE X a ta) (hb : PE X b tb) (hm : behindInMarks op b = false) : PT X (.Compare a [op] [b] pos) (tTest (tOp r ta tb)) := by
  intro pins s σ H Q I h
  refine wpAny_isTrue_Compare1 (thn (ha pins s σ H _ I h) fun v s1 ⟨x, H1, I1, r1, q1⟩ => thn (hb pins s1 σ H1 _ I1 q1) fun u s2 ⟨y, H2, I2, r2, q2⟩ =>
    thn (ho pins s2 σ H2 x y v u _ I2 r1 r2 q2) fun c s3 ⟨z, H3, I3, r3, k, e, q3⟩ => ?_) hm
  subst e
  cases r3
  exact wpAny_truthy_bool ⟨H3, I3, q3⟩
def tChain (r r' : R2) (ta tb tc : TE) : TE := fun σ H Q => ta σ H fun x H1 => tb σ H1 fun y H2 => r x y H2 fun z H3 => ∃ k, z = .bl k ∧
  (if k = true then tc σ H3 fun w' H4 => r' y w' H4 Q else Q (.bl false) H3)
theorem pt_chain {op op' : CmpOp} {r r' : R2} (ho : OpR X (compareOp op) r) (ho' : OpR X (compareOp op') r') (ha : PE X a ta) (hb : PE X b tb) (hc : PE X c tc)
    (hm : lastMarks [op, op'] [b, c] = false := by with_unfolding_all rfl) : PT X (.Compare a [op, op'] [b, c] pos) (tTest (tChain r r' ta tb tc)) := by
  intro pins s σ H Q I h
  refine isTrue_chain (thn (ha pins s σ H _ I h) fun v s1 ⟨x, H1, I1, r1, q1⟩ => test_link (thn (hb pins s1 σ H1 _ I1 q1) fun u s2 ⟨y, H2, I2, r2, q2⟩ =>
    thn (ho pins s2 σ H2 x y v u _ I2 r1 r2 q2) fun d s3 ⟨z, H3, I3, r3, k, e, q3⟩ => ?_)) hm
  subst e
  cases r3
  refine wpAny_truthy_bool ?_
  cases k with
  | false =>
    obtain ⟨k', e', q'⟩ := q3
    cases e'
    exact ite_ff ⟨H3, I3, q'⟩
  | true =>
    refine ite_tt (test_last (thn (hc pins s3 σ H3 _ I3 q3) fun w' s4 ⟨z', H4, I4, r4, q4⟩ => thn (ho' pins s4 σ H4 y z' u w' _ I4 r2 r4 q4) fun d' s5 ⟨z2, H5, I5, r5, k2, e2, q5⟩ => ?_))
    subst e2
    cases r5
    exact wpAny_truthy_bool ⟨H5, I5, q5⟩
theorem line63 : (sizeLine : Nat) < 2 ^ 63 := by rw [sizeLine_eq]; decide
theorem vals1 {x : V} {us : List Value} (r : Vals [x] us) : ∃ u, us = [u] ∧ RelV x u := by
  cases r with
  | cons r1 r2 => cases r2; exact ⟨_, rfl, r1⟩
end
end L2
namespace L2
open PySem PySem.Spec PyProof.Rows
structure ObjM (h : Heap) (x dx C : Addr) (mA : Str → Option Value) : Prop where
  obj : h.get? x = some (PySem.W.instObj C dx)
  ns : h.Ns1 dx mA
  ne : dx ≠ x
theorem lookIn_ns {h : Heap} {dx : Addr} {mA : Str → Option Value} (n : h.Ns1 dx mA) : ∃ od, h.get? dx = some od ∧ ∀ name, PySem.W.lookIn name od = some (mA name) := by
  obtain ⟨o, es, ep, ho, hd, hk, _, hm⟩ := n
  refine ⟨o, ho, fun name => ?_⟩
  have e := hm name
  unfold nsFind findBy at e
  rw [← Array.find?_toList] at e
  unfold PySem.W.lookIn
  rw [hd]
  dsimp only
  split
  · rename_i y q
    rw [q] at e
    exact congrArg some e
  · rename_i q
    rw [q] at e
    have a : es.toList.any (·.refKey) = false := by
      rw [List.any_eq_false]
      intro y hy
      obtain ⟨z, t, hkey⟩ := hk y (Array.mem_toList_iff.mp hy)
      simp [DictEntry.refKey, hkey]
    have a' : ¬ es.toList.any (·.refKey) = true := by rw [a]; exact Bool.false_ne_true
    rw [if_neg a']
    exact congrArg some e
theorem ObjM.look {h : Heap} {x dx C : Addr} {mA : Str → Option Value} (I : ObjM h x dx C mA) : ∃ od, PySem.W.InstAt h x (PySem.W.instObj C dx) C (some od) ∧ ∀ name, PySem.W.lookIn name od = some (mA name) :=
  let ⟨od, ho, hl⟩ := lookIn_ns I.ns
  ⟨od, ⟨I.obj, rfl, rfl, ho⟩, hl⟩
section
variable {prog : Program} {w : World} {A : Around} {E : Value → Shared → Prop} {s : Shared} {K : PySem.W.Frag} {x dx C f : Addr} {mA : Str → Option Value} {name : Str} {v : Value}
theorem get_map {expr : Bool} {Q : Value → Shared → Prop} (X : K.In s.heap) (I : ObjM s.heap x dx C mA) (hg : PySem.W.plainGet K C name = true) (hh : PySem.W.hasDictIn K C = true)
    (ha : PySem.W.findIn K (.ref C) name = some none) (hv : mA name = some v) (hv' : PySem.W.handedIn v = true) (h : Q v { s with toks := s.toks + 1 }) :
    wpAny (model prog w) A (getAttr (.ref x) name expr) Q E s := by
  obtain ⟨od, J, hl⟩ := I.look
  exact PySem.W.get_value X J (PySem.W.plainGet_of hg).1 (PySem.W.findObj_own hh ha rfl (by rw [hl, hv])) hv' h
theorem set_map {ns : List Str} {Q : Unit → Shared → Prop} (X : K.In s.heap) (I : ObjM s.heap x dx C mA)
    (hs : PySem.W.findIn K (.ref C) "__setattr__" = some (some (.builtin "object.__setattr__"))) (hp : PySem.W.plainOver K C = true) (ht : PySem.W.takerIn K C name = some none) (hh : PySem.W.hasDictIn K C = true)
    (hw : PySem.Within mA ns) (hsz : ns.length ≤ sizeLine)
    (h : ∀ h', ObjM h' x dx C (fun y => if y = name then some v else mA y) → Heap.SameBut dx s.heap h' → Q () { s with heap := h', toks := s.toks + 2 }) :
    wpAny (model prog w) A (setAttr (.ref x) name v) Q E s := by
  obtain ⟨od, J, hl⟩ := I.look
  refine PySem.W.set_plain X J hs (PySem.W.osa_open (s := { s with toks := s.toks + 1 }) (r := none) X J hp ht fun b => ?_)
  obtain ⟨cd, hc, hd'⟩ := PySem.W.any_some hh
  have hx : s.heap.get? x = some ⟨.ref C, some dx, .plain, #[]⟩ := I.obj
  refine wpAny_bind (wpAny_pure (wpAny_bind (wpAny_bind (wpAny_loadPart hx (wpAny_bind (PySem.W.Looks.here (s := { s with toks := s.toks + 1 }) (PySem.W.looks_clsIn X hc) ?_))))))
  rw [hd']
  refine wpAny_pure (a := some dx) (wpAny_bind (wpAny_pure (wpAny_bind ?_)))
  refine wpAny_nsSet1 (s := { s with toks := s.toks + 1 }) I.ns fun h' hn2 hs2 => ?_
  obtain ⟨oD, esD, epD, hoD, hdD, hcD⟩ := hn2.count (PySem.Within.cons name v hw)
  refine wpAny_bind (wpAny_lookBehind hoD (by rw [hdD]; exact pastItsLine_dict (Nat.le_trans hcD (by rw [List.length_cons]; omega))) ?_)
  exact wpAny_pure (h _ ⟨(hs2.2 _ (Ne.symm I.ne)).trans I.obj, hn2, I.ne⟩ hs2)
theorem make_map {R : Result → Shared → Prop} {vs : List Value} {kw : List (Str × Value)} (X : K.In s.heap) (hm : PySem.W.makesIn K C = true)
    (hi : PySem.W.findIn K (.ref C) "__init__" = some (some (.ref f))) (hf : PySem.W.typeIn K (.ref f) = some (.type "function"))
    (h : codeAny (model prog w) (A.under (.builtin "type.__call__" ⟨.ref C :: vs, kw⟩)) (.call (.ref f) ⟨.ref (s.heap.objs.size + 1) :: vs, kw⟩) (PySem.W.InitBack (s.heap.objs.size + 1) R)
      { s with heap := (s.heap.push PySem.W.emptyDict).push (PySem.W.instObj C s.heap.objs.size) }) :
    codeAny (model prog w) A (.call (.ref C) ⟨vs, kw⟩) R s := by
  obtain ⟨hh, g, d, t, os⟩ := s
  exact PySem.W.make_core (PySem.W.makes_of X hm) (PySem.W.looks_findIn X hi) (fun self => PySem.W.bind_fn X self hf) (.inl rfl) h
end
def putF (f : Str) (v : V) : List (Str × V) → List (Str × V)
  | [] => [(f, v)]
  | (g, x) :: r => if g = f then (g, v) :: r else (g, x) :: putF f v r
theorem lookup_putF (f g : Str) (v : V) : ∀ fs : List (Str × V), (putF f v fs).lookup g = if g = f then some v else fs.lookup g
  | [] => by
    show List.lookup g [(f, v)] = _
    by_cases h : g = f
    · have hb : (g == f) = true := beq_iff_eq.mpr h
      simp only [List.lookup, hb, if_pos h]
    · have hb : (g == f) = false := beq_eq_false_iff_ne.mpr h
      simp only [List.lookup, hb, if_neg h]
  | (k, x) :: r => by
    have ih := lookup_putF f g v r
    rw [show putF f v ((k, x) :: r) = (if k = f then (k, v) :: r else (k, x) :: putF f v r) from rfl]
    by_cases hk : k = f
    · rw [if_pos hk]
      by_cases h : g = k
      · have hb : (g == k) = true := beq_iff_eq.mpr h
        simp only [List.lookup, hb, if_pos (h.trans hk)]
      · have hb : (g == k) = false := beq_eq_false_iff_ne.mpr h
        simp only [List.lookup, hb, if_neg (fun e : g = f => h (e.trans hk.symm))]
    · rw [if_neg hk]
      by_cases h : g = k
      · have hb : (g == k) = true := beq_iff_eq.mpr h
        simp only [List.lookup, hb, if_neg (fun e : g = f => hk (h.symm.trans e))]
      · have hb : (g == k) = false := beq_eq_false_iff_ne.mpr h
        simp only [List.lookup, hb]
        exact ih
theorem keys_putF (f : Str) (v : V) : ∀ fs : List (Str × V), f ∈ (putF f v fs).map (·.1) ∧ ∀ g, g ∈ fs.map (·.1) → g ∈ (putF f v fs).map (·.1)
  | [] => ⟨by simp [putF], fun g h => by simp at h⟩
  | (k, x) :: r => by
    obtain ⟨i1, i2⟩ := keys_putF f v r
    rw [show putF f v ((k, x) :: r) = (if k = f then (k, v) :: r else (k, x) :: putF f v r) from rfl]
    by_cases hk : k = f
    · rw [if_pos hk]
      subst hk
      exact ⟨by simp, fun g h => by simpa using h⟩
    · rw [if_neg hk]
      refine ⟨?_, fun g h => ?_⟩
      · rw [List.map_cons]
        exact List.mem_cons_of_mem _ i1
      · rw [List.map_cons] at h ⊢
        rcases List.mem_cons.mp h with e | e
        · exact List.mem_cons.mpr (.inl e)
        · exact List.mem_cons_of_mem _ (i2 g e)
theorem length_putF (f : Str) (v : V) : ∀ fs : List (Str × V), (putF f v fs).length ≤ fs.length + 1
  | [] => by simp [putF]
  | (k, x) :: r => by
    have ih := length_putF f v r
    rw [show putF f v ((k, x) :: r) = (if k = f then (k, v) :: r else (k, x) :: putF f v r) from rfl]
    by_cases hk : k = f
    · rw [if_pos hk, List.length_cons, List.length_cons]; omega
    · rw [if_neg hk, List.length_cons, List.length_cons]; omega
theorem RelO.some_of {v : V} {o : Option Value} (r : RelO (some v) o) : ∃ u, o = some u ∧ RelV v u := by
  cases o with
  | none => exact (show False from r).elim
  | some u => exact ⟨u, rfl, r⟩
theorem handed_of {v : V} {u : Value} (r : RelV v u) : PySem.W.handedIn u = true := by
  cases v with
  | non => cases (show u = Value.none from r); rfl
  | bl b => cases (show u = Value.bool b from r); rfl
  | int i => obtain ⟨t, e⟩ := (show ∃ t, u = Value.int i t from r); cases e; rfl
  | str x => obtain ⟨t, e⟩ := (show ∃ t, u = Value.str x t from r); cases e; rfl
  | byt b => obtain ⟨t, e⟩ := (show ∃ t, u = Value.bytes b t from r); cases e; rfl
  | flt b => obtain ⟨t, e⟩ := (show ∃ t, u = Value.float b t from r); cases e; rfl
  | ref a => cases (show u = Value.ref a from r); rfl
  | ty n => cases (show u = Value.type n from r); rfl
section
variable {P : Program} {w : World} {H H' : Hp} {h h' : Heap} {a C dx : Addr} {fs fs' : List (Str × V)}
theorem ins_get (hok : HOk P w H h) (e : H a = some (.ins C dx fs)) : ∃ mA, ObjM h a dx C mA ∧ (∀ f, RelO (fs.lookup f) (mA f)) ∧ PySem.Within mA (fs.map (·.1)) ∧ fs.length ≤ 1000 ∧ H dx = some (.own a) := by
  obtain ⟨d, z, ne, ob, mA, n, r, q⟩ := (show ObjOk P w H h a (.ins C dx fs) from hok a _ e)
  exact ⟨mA, ⟨ob, n, ne⟩, r, q, z, d⟩
end
structure Cls (K : PySem.W.Frag) (C : Addr) : Prop where
  pg : PySem.W.plainGet K C Str.empty = true
  hd : PySem.W.hasDictIn K C = true
  po : PySem.W.plainOver K C = true
  sa : PySem.W.findIn K (.ref C) "__setattr__" = some (some (.builtin "object.__setattr__"))
theorem Cls.get {K : PySem.W.Frag} {C : Addr} (c : Cls K C) (f : Str) : PySem.W.plainGet K C f = true := c.pg
def NoAttr (K : PySem.W.Frag) (C : Addr) (f : Str) : Prop := PySem.W.findIn K (.ref C) f = some none
theorem NoAttr.taker {K : PySem.W.Frag} {C : Addr} {f : Str} (n : NoAttr K C f) : PySem.W.takerIn K C f = some none := by
  unfold PySem.W.takerIn
  rw [show PySem.W.findIn K (.ref C) f = some none from n]
  rfl
section
variable {X : Cx} {pins : List (Addr × Obj)} {σ : St} {H : Hp} {s : Shared} {a C dx : Addr} {fs : List (Str × V)} {f : Str} {v : V} {A : Around} {E : Value → Shared → Prop}
theorem getattr_ok {b : Bool} {Q : Value → Shared → Prop} (I : Inv X pins σ H s) (e : H a = some (.ins C dx fs)) (c : Cls X.K C) (n : NoAttr X.K C f) (l : fs.lookup f = some v)
    (h : ∀ u s', Inv X pins σ H s' → RelV v u → Q u s') : wpAny (model X.prog X.w) A (getAttr (.ref a) f b) Q E s := by
  obtain ⟨mA, O, r, _, _, _⟩ := ins_get I.hok e
  obtain ⟨u, hu, ru⟩ := RelO.some_of (v := v) (o := mA f) (by rw [← l]; exact r f)
  exact get_map I.kIn O (c.get f) c.hd n hu (handed_of ru) (h u _ (I.tok _) ru)
theorem setattr_ok {y : V} {u : Value} {Q : Unit → Shared → Prop} (I : Inv X pins σ H s) (e : H a = some (.ins C dx fs)) (c : Cls X.K C) (n : NoAttr X.K C f) (hl : fs.length < 1000) (ry : RelV y u)
    (h : ∀ s', Inv X pins σ (upd H a (.ins C dx (putF f y fs))) s' → Q () s') : wpAny (model X.prog X.w) A (setAttr (.ref a) f u) Q E s := by
  obtain ⟨mA, O, r, wi, _, ho⟩ := ins_get I.hok e
  have hz : (fs.map (·.1)).length ≤ sizeLine := by rw [List.length_map, sizeLine_eq]; omega
  refine set_map I.kIn O c.sa c.po n.taker c.hd wi hz fun h' O' sb => h _ ?_
  have hd : ∃ o, h'.get? dx = some o := let ⟨o, _, _, e', _⟩ := O'.ns; ⟨o, e'⟩
  refine I.write (x := a) (e := dx) (by rw [e]; exact True.intro) (.inr ho) (fun b q hb z => (sb.2 b hb).trans z) hd ?_
  refine ⟨by rw [upd_ne O.ne]; exact ho, ?_, O.ne, O'.obj, _, O'.ns, fun g => ?_, fun g hg => ?_⟩
  · have := length_putF f y fs; omega
  · show RelO ((putF f y fs).lookup g) (if g = f then some u else mA g)
    rw [lookup_putF]
    by_cases q : g = f
    · rw [if_pos q, if_pos q]; exact ry
    · rw [if_neg q, if_neg q]; exact r g
  · by_cases q : g = f
    · rw [q]; exact (keys_putF f y fs).1
    · refine (keys_putF f y fs).2 g (wi g fun z => hg ?_)
      show (if g = f then some u else mA g) = none
      rw [if_neg q]; exact z
theorem Inv.made (I : Inv X pins σ H s) : Inv X pins σ (upd (upd H s.heap.objs.size (.own (s.heap.objs.size + 1))) (s.heap.objs.size + 1) (.ins C s.heap.objs.size []))
    { s with heap := (s.heap.push PySem.W.emptyDict).push (PySem.W.instObj C s.heap.objs.size) } := by
  have e1 : (s.heap.push PySem.W.emptyDict).get? s.heap.objs.size = some PySem.W.emptyDict := Heap.get?_push_size s.heap rfl
  have e2 : ((s.heap.push PySem.W.emptyDict).push (PySem.W.instObj C s.heap.objs.size)).get? (s.heap.objs.size + 1) = some (PySem.W.instObj C s.heap.objs.size) := by
    have := Heap.get?_push_size (s.heap.push PySem.W.emptyDict) (o := PySem.W.instObj C s.heap.objs.size) rfl
    rwa [Heap.size_push] at this
  have e3 : (s.heap.push PySem.W.emptyDict).Ns s.heap.objs.size (fun _ => none) := ⟨PySem.W.emptyDict, #[], _, e1, rfl, (fun e he => absurd he (by simp)), fun _ => rfl⟩
  have I1 := I.laid (a := s.heap.objs.size) (o := .own (s.heap.objs.size + 1)) (h' := s.heap.push PySem.W.emptyDict) (t' := s.toks) (fun b u q => Heap.get?_push_of_some _ q) (Nat.le_refl _) ⟨_, e1⟩
  refine I1.laid (a := s.heap.objs.size + 1) (o := .ins C s.heap.objs.size []) (t' := s.toks) (fun b u q => Heap.get?_push_of_some _ q) (Nat.le_of_eq (Heap.size_push _ _)) ?_
  have ne : s.heap.objs.size ≠ s.heap.objs.size + 1 := Nat.ne_of_lt (Nat.lt_succ_self _)
  refine ⟨by rw [upd_ne ne, upd_same], Nat.zero_le _, ne, e2, fun _ => none, (Heap.Ns1.of_empty e3).at fun o q => Heap.get?_push_of_some _ q, fun _ => True.intro, fun y hy => absurd rfl hy⟩
theorem attr_of {prog : Program} {w : World} {env : Env} {e : Expr} {f : Str} {pos : Pos} {s : Shared} {Q : Value → Shared → Prop} (hb : attributeBase e f env (eval e env) = eval e env)
    (h : wpAny (model prog w) A (eval e env) (fun o s₁ => wpAny (model prog w) A (getAttr o f true) Q E s₁) E s) : wpAny (model prog w) A (eval (.Attribute e f pos) env) Q E s :=
  Attribute_any_ h (by rw [arm_eval_Attribute, hb])
end
def tFld (K : PySem.W.Frag) (ta : TE) (f : Str) : TE := fun σ H Q => ta σ H fun x H1 => ∃ a C dx fs v, x = .ref a ∧ H1 a = some (.ins C dx fs) ∧ Cls K C ∧ NoAttr K C f ∧ fs.lookup f = some v ∧ Q v H1
def sFld (K : PySem.W.Frag) (ta tv : TE) (f : Str) : TS := fun D σ H => tv σ H fun y H1 => ta σ H1 fun x H2 => ∃ a C dx fs, x = .ref a ∧ H2 a = some (.ins C dx fs) ∧ Cls K C ∧ NoAttr K C f ∧ fs.length < 1000 ∧
  D.nx σ (upd H2 a (.ins C dx (putF f y fs)))
section
variable {X : Cx} {o e value : Expr} {f : Str} {pos pos' tpos : Pos} {ta tv : TE}
theorem pe_fld (he : PE X e ta) (hb : attributeBase e f X.env (eval e X.env) = eval e X.env) : PE X (.Attribute e f pos) (tFld X.K ta f) := by
  intro pins s σ H Q I h
  refine attr_of hb (thn (he pins s σ H _ I h) fun u s1 ⟨x, H1, I1, rx, a, C, dx, fs, v, ex, ea, c, n, l, q⟩ => ?_)
  subst ex
  obtain rfl : u = Value.ref a := rx
  exact getattr_ok I1 ea c n l fun u' s2 I2 ru => ⟨v, H1, I2, ru, q⟩
theorem ps_fld (ha : PE X o ta) (hv : PE X value tv) (hs : swapsWith value (some (.Attribute o f pos')) pos.line X.env = pure false) : PS X (.Assign [.Attribute o f pos'] value pos) (sFld X.K ta tv f) := by
  intro pins s σ H D I h
  refine plainObj_wpAny_Assign_Attribute (thn (hv pins s σ H _ I h) fun u s1 ⟨y, H1, I1, ry, q⟩ => thn (ha pins s1 σ H1 _ I1 q) fun ov s2 ⟨x, H2, I2, rx, a, C, dx, fs, ex, ea, c, n, l, q2⟩ => ?_) hs
  subst ex
  obtain rfl : ov = Value.ref a := rx
  exact setattr_ok I2 ea c n l ry fun s3 I3 => ⟨σ, _, I3, q2⟩
end
section
variable {X : Cx} {pins : List (Addr × Obj)} {σ : St} {H : Hp} {s : Shared} {A : Around} {E : Value → Shared → Prop} {Q : Value → Shared → Prop} {c : Value} {b : Bool}
end
end L2
namespace L2
open PySem PySem.Spec PyProof.Rows
structure Room (k : Nat) (A : Around) : Prop where
  hd : A.handled = none
  dp : A.depth + 3 * k + 5 < recursionLimit
  un : A.units + 16 * k + 200 < cLine
theorem Room.mono {j k : Nat} {A : Around} (r : Room k A) (h : j ≤ k) : Room j A := ⟨r.hd, by have := r.dp; omega, by have := r.un; omega⟩
theorem Room.deeper {k : Nat} {A : Around} (r : Room (k + 1) A) (env : Env) : Room k (A.deeper env) :=
  ⟨r.hd, by have := r.dp; show A.depth + 1 + 3 * k + 5 < _; omega, by have := r.un; show A.units + 3 + 16 * k + 200 < _; omega⟩
theorem make_depth {A : Around} {C : Addr} {us : List Value} {kw : List (Str × Value)} : (A.under (.builtin "type.__call__" ⟨.ref C :: us, kw⟩)).depth = A.depth + 1 := by
  first | rfl | simp [Around.under, Code.weight, Code.isCreation, Code.isGuard, Code.isCaller, Code.frames, Code.isFrame, guardIds]
theorem make_units {A : Around} {C : Addr} {us : List Value} {kw : List (Str × Value)} : (A.under (.builtin "type.__call__" ⟨.ref C :: us, kw⟩)).units = A.units + 1 := by
  first | rfl | simp [Around.under, Code.cUnits, Code.frames, Code.isFrame]
theorem Room.make {k : Nat} {A : Around} (r : Room (k + 1) A) (C : Addr) (us : List Value) (kw : List (Str × Value)) : Room k (A.under (.builtin "type.__call__" ⟨.ref C :: us, kw⟩)) :=
  ⟨r.hd, by have := r.dp; rw [make_depth]; omega, by have := r.un; rw [make_units]; omega⟩
theorem Room.depth {k : Nat} {A : Around} (r : Room k A) : A.depth < recursionLimit := by have := r.dp; omega
def tNil : TA := fun _ H Q => Q [] H
def tCons (ta : TE) (tr : TA) : TA := fun σ H Q => ta σ H fun x H1 => tr σ H1 fun xs H2 => Q (x :: xs) H2
section
variable {X : Cx} {e : Expr} {es : List Expr} {te : TE} {t : TA} {pos : Pos}
theorem pa_nil : PA X [] tNil := fun _ _ _ _ H Q I h => Calls.spliced_nil ⟨[], H, I, .nil, h⟩
theorem pa_cons (ha : PE X e te) (hr : PA X es t) (hs : starEach (e :: es) X.env = (false, eval e X.env) :: starEach es X.env := by rfl) : PA X (e :: es) (tCons te t) := by
  intro pos pins s σ H Q I h
  rw [hs]
  show wpAny _ _ (spliced ((false, eval e X.env) :: backTo pos (starEach es X.env))) _ _ s
  refine Calls.spliced_cons (thn (ha pins s σ H _ I h) fun u s1 ⟨x, H1, I1, r1, q1⟩ => ?_)
  exact thn (hr pos pins s1 σ H1 _ I1 q1) fun us s2 ⟨xs, H2, I2, r2, q2⟩ => ⟨x :: xs, H2, I2, .cons r1 r2, q2⟩
def tLst (t : TA) : TE := fun σ H Q => t σ H fun xs H1 => xs.length ≤ sizeLine ∧ ∀ p, H1 p = none → Q (.ref p) (upd H1 p (.lst xs))
theorem pe_lst (h : PA X es t) : PE X (.List es pos) (tLst t) := by
  intro pins s σ H Q I hq
  refine wpAny_List_spliced (thn (h pos pins s σ H _ I hq) fun us s1 ⟨xs, H1, I1, r, z, q⟩ => ⟨by rw [← r.length]; exact z, ?_⟩)
  have hf : H1 s1.heap.objs.size = none := I1.hok.fresh (Nat.le_refl _)
  refine ⟨.ref s1.heap.objs.size, upd H1 s1.heap.objs.size (.lst xs), I1.laid (t' := s1.toks) (fun b u e => Heap.get?_push_of_some _ e) (Nat.le_refl _) ?_, rfl, q _ hf⟩
  exact ⟨z, us, 0, r, Heap.get?_push_size _ rfl⟩
end
abbrev Sp := List V → Hp → VK → XK → Prop
abbrev CXT := List Env → Hp → Shared → XK → Value → Shared → Prop
structure Env0 (P : Program) (w : World) (K : PySem.W.Frag) (mg : Str → Option Value) (base : Heap) (A : Around) (outer : List Env) (s : Shared) (H : Hp) : Prop where
  frames : A.frames = some outer
  mod : Mod K mg base
  bs : ∀ b o, base.get? b = some o → s.heap.get? b = some o ∧ H b = none
  bsz : base.objs.size ≤ s.heap.objs.size
  funs : s.heap.FunFrames base outer
  frf : ∀ b ∈ frs outer, H b = none
  hok : HOk P w H s.heap
  bare : AllBare s.gens
def CE (outer : List Env) (P : Program) (w : World) (H : Hp) (s : Shared) (Q : VK) (u : Value) (s' : Shared) : Prop :=
  ∃ v H', s'.os = s.os ∧ AllBare s'.gens ∧ Un (frs outer) [] H H' s.heap s'.heap ∧ HOk P w H' s'.heap ∧ RelV v u ∧ Q v H'
def CR (CX : CXT) (outer : List Env) (P : Program) (w : World) (H : Hp) (s : Shared) (Q : VK) (E : XK) (r : Result) (s' : Shared) : Prop :=
  match r with
  | .ok (.ret u) => CE outer P w H s Q u s'
  | .ok _ => False
  | .error e => CX outer H s E e s'
structure FnOk (P : Program) (w : World) (K : PySem.W.Frag) (mg : Str → Option Value) (base : Heap) (CX : CXT) (k : Nat) (f : Addr) (fd : FuncData) (ps : List Str) (sp : Sp) : Prop where
  len : ∀ vs H Q E, sp vs H Q E → vs.length = ps.length
  run : ∀ (A : Around) (outer : List Env) (s : Shared) (H : Hp) (args : Args) (us : List Value) (vs : List V) (Q : VK) (E : XK), Room k A → Env0 P w K mg base A outer s H → BindsTo s fd args (ps.zip us) → Vals vs us → sp vs H Q E →
    codeAny (model P w) A (.call (.ref f) args) (CR CX outer P w H s Q E) s
theorem Env0.make {P : Program} {w : World} {K : PySem.W.Frag} {mg : Str → Option Value} {base : Heap} {A : Around} {outer : List Env} {s : Shared} {H : Hp} (e : Env0 P w K mg base A outer s H) (C : Addr) (us : List Value) (kw : List (Str × Value)) :
    Env0 P w K mg base (A.under (.builtin "type.__call__" ⟨.ref C :: us, kw⟩)) outer s H := ⟨by first | exact e.frames | (simpa [Around.under, Code.envs, Code.isFrame, pushEnvs] using e.frames), e.mod, e.bs, e.bsz, e.funs, e.frf, e.hok, e.bare⟩
section
variable {X : Cx} {pins : List (Addr × Obj)} {σ : St} {H : Hp} {s s' : Shared}
theorem Inv.env0 (I : Inv X pins σ H s) : Env0 X.prog X.w X.K X.mg X.base X.A X.stack s H :=
  ⟨I.ok.frames, I.ok.mod, I.bs, Nat.le_trans I.ok.bsz I.sz, I.stack, I.stkFree, I.hok, I.bare⟩
theorem Inv.after {Q : VK} {u : Value} (I : Inv X pins σ H s) (h : CE X.stack X.prog X.w H s Q u s') : EP X pins σ Q u s' := by
  obtain ⟨v, H', os, bare, un, hok, r, q⟩ := h
  obtain ⟨hh, g, d, t, os'⟩ := s'
  obtain rfl : os' = s.os := os
  exact ⟨v, H', I.call (h' := hh) (g' := g) (d' := d) (t' := t) (ch := []) un hok bare (fun b z => absurd z (by simp)), r, q⟩
end
def tCall (sp : Sp) (dvs : List V) (E : XK) (t : TA) : TE := fun σ H Q => t σ H fun vs H1 => sp (vs ++ dvs) H1 Q E
def tMake (C : Addr) (sp : Sp) (dvs : List V) (E : XK) (t : TA) : TE := fun σ H Q => t σ H fun vs H1 => ∀ x dx, H1 x = none → H1 dx = none → dx ≠ x →
  sp (.ref x :: (vs ++ dvs)) (upd (upd H1 dx (.own x)) x (.ins C dx [])) (fun v H2 => v = .non ∧ Q (.ref x) H2) E
def Binds (K : PySem.W.Frag) (fd : FuncData) (ps : List Str) (ds : List Value) : Prop :=
  ∀ (s : Shared) (us : List Value), K.In s.heap → (us ++ ds).length = ps.length → BindsTo s fd ⟨us, []⟩ (ps.zip (us ++ ds))
theorem Binds.all {K : PySem.W.Frag} {fd : FuncData} {ps : List Str} (h : ∀ us : List Value, us.length = ps.length → bindArgs fd ⟨us, []⟩ = pure (ps.zip us)) : Binds K fd ps [] := fun s us _ hl => by
  rw [List.append_nil] at hl ⊢
  exact .of_eq (h us hl)
def Passes (CX : CXT) (X : Cx) (E : XK) : Prop := ∀ (pins : List (Addr × Obj)) (σ : St) (H : Hp) (s : Shared) (e : Value) (s' : Shared), Inv X pins σ H s → CX X.stack H s E e s' → X.xe e s'
section
variable {X : Cx} {CX : CXT} {k : Nat} {f C : Addr} {fd : FuncData} {ps : List Str} {sp : Sp} {dvs : List V} {ds : List Value} {E : XK} {x m : Str} {p pos apos : Pos} {e o : Expr} {es : List Expr} {ta : TE} {t : TA}
theorem run_fn {pins : List (Addr × Obj)} {σ : St} {H : Hp} {s : Shared} {Q : VK} {us : List Value} {vs : List V} (F : FnOk X.prog X.w X.K X.mg X.base CX k f fd ps sp) (hr : Room k X.A) (hb : Binds X.K fd ps ds) (hd : Vals dvs ds) (hx : Passes CX X E)
    (I : Inv X pins σ H s) (r : Vals vs us) (h : sp (vs ++ dvs) H Q E) : wpAny (model X.prog X.w) X.A (call (.ref f) us) (EP X pins σ Q) X.xe s := by
  have r2 : Vals (vs ++ dvs) (us ++ ds) := r.append hd
  have hl : (us ++ ds).length = ps.length := by rw [← r2.length]; exact F.len _ _ _ _ h
  refine wpAny_call (codeAny_mono (F.run X.A X.stack s H ⟨us, []⟩ (us ++ ds) (vs ++ dvs) Q E hr I.env0 (hb s us I.kIn hl) r2 h) fun r s' hq => ?_)
  cases r with
  | error e => exact hx pins σ H s e s' I hq
  | ok fl =>
    cases fl with
    | ret u => exact I.after hq
    | next => exact False.elim hq
    | brk => exact False.elim hq
    | cont => exact False.elim hq
theorem pe_call (F : FnOk X.prog X.w X.K X.mg X.base CX k f fd ps sp) (hr : Room k X.A) (hg : Gl X x) (hm : X.mg x = some (.ref f)) (hk : PySem.W.keepIn X.K (.ref f) = true) (hb : Binds X.K fd ps ds) (hd : Vals dvs ds) (hx : Passes CX X E)
    (ha : PA X (e :: es) t) (hdb : (x == ("__debug__" : Str)) = false := by decide) (he : starEach (e :: es) X.env = (false, eval e X.env) :: starEach es X.env := by rfl) (hpl : (backTo pos (starEach es X.env)).any (·.1) = false := by rfl) :
    PE X (.Call (.Name x p) (e :: es) [] pos) (tCall sp dvs E t) := by
  intro pins s σ H Q I h
  refine wpAny_Call_Name_kw (ld_glob I hg hm ?_ hdb)
  refine PySem.W.callWith_K (h₀ := X.base) I.ok.mod.kin hk (thn (ha pos pins s σ H _ I h) fun us s1 ⟨vs, H1, I1, r, q⟩ => ⟨I1.kIn, ?_⟩) he hpl
  exact run_fn F hr hb hd hx I1 r q
structure Mk (K : PySem.W.Frag) (C f : Addr) : Prop where
  makes : PySem.W.makesIn K C = true
  init : PySem.W.findIn K (.ref C) "__init__" = some (some (.ref f))
  fn : PySem.W.isFn K (.ref f) = true
  kp : PySem.W.keepIn K (.ref C) = true
theorem run_make {pins : List (Addr × Obj)} {σ : St} {H : Hp} {s : Shared} {Q : VK} {us : List Value} {vs : List V} (M : Mk X.K C f) (F : FnOk X.prog X.w X.K X.mg X.base CX k f fd ps sp) (hr : Room (k + 1) X.A) (hb : Binds X.K fd ps ds) (hd : Vals dvs ds)
    (hx : Passes CX X E) (I : Inv X pins σ H s) (r : Vals vs us)
    (h : ∀ x dx, H x = none → H dx = none → dx ≠ x → sp (.ref x :: (vs ++ dvs)) (upd (upd H dx (.own x)) x (.ins C dx [])) (fun v H2 => v = .non ∧ Q (.ref x) H2) E) :
    wpAny (model X.prog X.w) X.A (call (.ref C) us) (EP X pins σ Q) X.xe s := by
  have hq := h (s.heap.objs.size + 1) s.heap.objs.size (I.hok.fresh (Nat.le_succ _)) (I.hok.fresh (Nat.le_refl _)) (Nat.ne_of_lt (Nat.lt_succ_self _))
  have I2 := Inv.made (C := C) I
  have r2 : Vals (V.ref (s.heap.objs.size + 1) :: (vs ++ dvs)) (Value.ref (s.heap.objs.size + 1) :: (us ++ ds)) := .cons rfl (r.append hd)
  have hl : (Value.ref (s.heap.objs.size + 1) :: us ++ ds).length = ps.length := by
    have e := r2.length
    rw [F.len _ _ _ _ hq] at e
    exact e.symm
  refine wpAny_call (make_map (f := f) I.kIn M.makes M.init (beq_iff_eq.mp M.fn) (codeAny_mono (F.run _ X.stack _ _ ⟨Value.ref (s.heap.objs.size + 1) :: us, []⟩ (Value.ref (s.heap.objs.size + 1) :: (us ++ ds)) _ _ E (hr.make C us [])
    (I2.env0.make C us []) (hb _ (Value.ref (s.heap.objs.size + 1) :: us) I2.kIn hl) r2 hq) fun r s' hq' => ?_))
  cases r with
  | error e => exact hx pins σ _ _ e s' I2 hq'
  | ok fl =>
    cases fl with
    | ret u =>
      obtain ⟨v, H', I3, rv, ev, q3⟩ := I2.after hq'
      subst ev
      exact ⟨rv, ⟨V.ref (s.heap.objs.size + 1), H', I3, rfl, q3⟩⟩
    | next => exact False.elim hq'
    | brk => exact False.elim hq'
    | cont => exact False.elim hq'
theorem pe_make (M : Mk X.K C f) (F : FnOk X.prog X.w X.K X.mg X.base CX k f fd ps sp) (hr : Room (k + 1) X.A) (hg : Gl X x) (hm : X.mg x = some (.ref C)) (hb : Binds X.K fd ps ds) (hd : Vals dvs ds) (hx : Passes CX X E)
    (ha : PA X (e :: es) t) (hdb : (x == ("__debug__" : Str)) = false := by decide) (he : starEach (e :: es) X.env = (false, eval e X.env) :: starEach es X.env := by rfl) (hpl : (backTo pos (starEach es X.env)).any (·.1) = false := by rfl) :
    PE X (.Call (.Name x p) (e :: es) [] pos) (tMake C sp dvs E t) := by
  intro pins s σ H Q I h
  refine wpAny_Call_Name_kw (ld_glob I hg hm ?_ hdb)
  refine PySem.W.callWith_K (h₀ := X.base) I.ok.mod.kin M.kp (thn (ha pos pins s σ H _ I h) fun us s1 ⟨vs, H1, I1, r, q⟩ => ⟨I1.kIn, ?_⟩) he hpl
  exact run_make M F hr hb hd hx I1 r q
end
section
variable {X : Cx} {CX : CXT} {k : Nat} {f C : Addr} {fd : FuncData} {ps ks : List Str} {sp : Sp} {E : XK} {x m : Str} {p pos apos kpos : Pos} {e o : Expr} {es : List Expr} {kws : List Keyword} {te ta : TE} {t tk : TA} {nm : Option Str}
variable {g : List Value → List Value → List Value} {gV : List V → List V → List V}
end
structure FnScope (N P : List Str) (sc : Scope) : Prop where
  kind : sc.kind = .function
  co : sc.isCoroutine = false
  gen : sc.isGenerator = false
  nd : N.Nodup
  pre : N.take P.length = P
  par : ∀ x ∈ P, sc.names.lookup x = some .local ∨ sc.names.lookup x = some .cell
  nofree : ∀ y ∈ sc.names, y.2 ≠ .free
theorem bindL_out {kindOf : Str → Option NameKind} {x : Str} : ∀ {binds : List (Str × Value)} {m : Str → Option Value}, (∀ v, (x, v) ∉ binds) → bindL kindOf binds m x = m x
  | [], _, _ => rfl
  | (n, v) :: r, m, h => by
    unfold bindL
    rw [bindL_out fun w hw => h w (List.mem_cons_of_mem _ hw)]
    split
    · have : x ≠ n := by rintro rfl; exact h v List.mem_cons_self
      simp [this]
    · rfl
theorem bindC_out {kindOf : Str → Option NameKind} {x : Str} : ∀ {binds : List (Str × Value)} {m : Str → Option Value}, (∀ v, (x, v) ∉ binds) → bindC kindOf binds m x = m x
  | [], _, _ => rfl
  | (n, v) :: r, m, h => by
    unfold bindC
    rw [bindC_out fun w hw => h w (List.mem_cons_of_mem _ hw)]
    split
    · rfl
    · have : x ≠ n := by rintro rfl; exact h v List.mem_cons_self
      simp [this]
theorem bindL_get {kindOf : Str → Option NameKind} {x : Str} {v : Value} : ∀ {P : List Str} {vs : List Value} {i : Nat} {m : Str → Option Value}, P.Nodup → P[i]? = some x → vs[i]? = some v → kindOf x = some .local →
    bindL kindOf (P.zip vs) m x = some v
  | [], _, _, _, _, h, _, _ => by simp at h
  | _ :: _, [], _, _, _, _, h, _ => by simp at h
  | p :: P, w :: vs, 0, m, nd, h1, h2, hk => by
    simp at h1 h2; subst h1; subst h2
    show bindL kindOf ((p, w) :: P.zip vs) m p = _
    unfold bindL
    rw [bindL_out fun v hv => (List.nodup_cons.mp nd).1 (List.of_mem_zip hv).1, if_pos hk]
    simp
  | p :: P, w :: vs, i + 1, m, nd, h1, h2, hk => by
    show bindL kindOf ((p, w) :: P.zip vs) m x = _
    unfold bindL
    exact bindL_get (i := i) (List.nodup_cons.mp nd).2 (by simpa using h1) (by simpa using h2) hk
theorem bindC_get {kindOf : Str → Option NameKind} {x : Str} {v : Value} : ∀ {P : List Str} {vs : List Value} {i : Nat} {m : Str → Option Value}, P.Nodup → P[i]? = some x → vs[i]? = some v → kindOf x ≠ some .local →
    bindC kindOf (P.zip vs) m x = some v
  | [], _, _, _, _, h, _, _ => by simp at h
  | _ :: _, [], _, _, _, _, h, _ => by simp at h
  | p :: P, w :: vs, 0, m, nd, h1, h2, hk => by
    simp at h1 h2; subst h1; subst h2
    show bindC kindOf ((p, w) :: P.zip vs) m p = _
    unfold bindC
    rw [bindC_out fun v hv => (List.nodup_cons.mp nd).1 (List.of_mem_zip hv).1, if_neg hk]
    simp
  | p :: P, w :: vs, i + 1, m, nd, h1, h2, hk => by
    show bindC kindOf ((p, w) :: P.zip vs) m x = _
    unfold bindC
    exact bindC_get (i := i) (List.nodup_cons.mp nd).2 (by simpa using h1) (by simpa using h2) hk
def start (N : List Str) (vs : List V) : St := vs.map some ++ List.replicate (N.length - vs.length) none
def cxOf (CX : CXT) (P : Program) (w : World) (K : PySem.W.Frag) (mg : Str → Option Value) (base : Heap) (N : List Str) (qual : Str) (scope : Scope) (f : Addr) (cd : Value) (A : Around) (outer : List Env) (s : Shared) (H : Hp) (E : XK) : Cx where
  prog := P
  w := w
  K := K
  mg := mg
  base := base
  A := A.deeper (envOfC qual scope s.heap.objs.size f cd)
  N := N
  s_0 := s
  H_0 := H
  env := envOfC qual scope s.heap.objs.size f cd
  outer := outer
  stack := envOfC qual scope s.heap.objs.size f cd :: outer
  ex := []
  calm := true
  fn := fun _ => true
  pn := []
  xe := fun e s' => wpAny (model P w) (A.deeper (envOfC qual scope s.heap.objs.size f cd)) (leaving (envOfC qual scope s.heap.objs.size f cd) e) (fun _ s'' => CX outer H s E e s'') (fun e' s'' => CX outer H s E e' s'') s'
theorem cell_has {sc : Scope} {n : Nat} {x : Str} (h : sc.names.lookup x = some .cell) : ∃ c, (cellsFrom n sc.names []).lookup x = some c := by
  have q := PySem.W.cellsFrom_some sc.names n [] (.inl h)
  exact Option.isSome_iff_exists.mp q
theorem inv_start {CX : CXT} {P : Program} {w : World} {K : PySem.W.Frag} {mg : Str → Option Value} {base : Heap} {N ps : List Str} {qual : Str} {scope : Scope} {f : Addr} {cd : Value} {A : Around} {outer : List Env} {s s1 : Shared} {H : Hp} {E : XK} {us : List Value} {vs : List V}
    (S : FnScope N ps scope) (hd : A.handled = none) (e0 : Env0 P w K mg base A outer s H) (hl : vs.length = ps.length) (r : Vals vs us)
    (x : InCallC s s.heap.objs.size (bindL (envOfC qual scope s.heap.objs.size f cd).kindOf (ps.zip us) fun _ => none) (cellsFrom (s.heap.objs.size + 1) scope.names []) (bindC (envOfC qual scope s.heap.objs.size f cd).kindOf (ps.zip us) fun _ => none) s1) :
    Inv (cxOf CX P w K mg base N qual scope f cd A outer s H E) [] (start N vs) H s1 := by
  have hpl : ps.length ≤ N.length := by have := congrArg List.length S.pre; rw [List.length_take] at this; omega
  obtain ⟨h1, tk, rfl, hk⟩ := x.done
  have noA : ∀ b : Addr, b ∉ (cxOf CX P w K mg base N qual scope f cd A outer s H E).ex := fun b z => absurd (show b ∈ ([] : List Addr) from z) (by simp)
  refine ⟨⟨e0.mod, S.kind, rfl, rfl, Nat.le_refl _, fun y z c h1 h2 => ?_, fun y hy => ?_, fun y c _ h => ?_, fun _ => hd, Around.frames_deeper e0.frames, .inr ⟨rfl, rfl⟩, fun b z => absurd z (noA b), e0.bs, e0.bsz, fun b _ _ => noA b, fun b z => absurd z (noA b), e0.funs, e0.frf⟩,
    rfl, e0.bare, Un.kept hk, ⟨_, x.toInCall.ns, fun i y v h1 h2 h3 => ?_⟩, fun y c h => ⟨_, x.cell y c h⟩, e0.hok.fresh (Nat.le_refl _), fun y c h => ?_, fun p hp => absurd (show p ∈ ([] : List (Addr × Obj)) from hp) (by simp), e0.hok.kept hk, ?_⟩
  · exact name_of_addr x.apart (PySem.mem_of_lookup h1) (PySem.mem_of_lookup h2)
  · have hy : scope.names.lookup y = some .cell ∨ scope.names.lookup y = some .free := hy
    rcases hy with hy | hy
    · exact cell_has hy
    · exact absurd rfl (S.nofree _ (PySem.mem_of_lookup hy))
  · exact Nat.le_of_lt (x.above y c (PySem.mem_of_lookup h))
  · have hi : i < vs.length := by
      unfold start at h2
      by_cases hi : i < vs.length
      · exact hi
      · rw [List.getElem?_append_right (by simpa using hi)] at h2
        rw [List.getElem?_replicate] at h2
        split at h2 <;> cases h2
    have ha : vs[i]? = some v := by
      unfold start at h2
      rw [List.getElem?_append_left (by simpa using hi), List.getElem?_map] at h2
      cases e : vs[i]? with
      | none => rw [e] at h2; cases h2
      | some a => rw [e] at h2; cases h2; rfl
    obtain ⟨u, hu, rv⟩ := r.get ha
    have hp : ps[i]? = some y := by
      rw [← S.pre, List.getElem?_take_of_lt (by omega)]; exact h1
    have ndP : ps.Nodup := by rw [← S.pre]; exact S.nd.sublist (List.take_sublist _ _)
    refine ⟨u, rv, ?_⟩
    rcases S.par y (List.mem_of_getElem? hp) with k | k
    · exact .inl ⟨k, bindL_get ndP hp hu k⟩
    · obtain ⟨c, e⟩ := cell_has (n := s.heap.objs.size + 1) k
      refine .inr ⟨.inl k, c, e, ?_⟩
      have q := x.cell y c e
      rw [bindC_get ndP hp hu (by show scope.names.lookup y ≠ _; rw [k]; decide)] at q
      exact q
  · exact e0.hok.fresh (Nat.le_of_lt (x.above y c (PySem.mem_of_lookup h)))
  · unfold start
    show _ = N.length
    rw [List.length_append, List.length_map, List.length_replicate]
    omega
theorem fn_of {CX : CXT} {P : Program} {w : World} {K : PySem.W.Frag} {mg : Str → Option Value} {base : Heap} {k : Nat} {f : Addr} {name qual : Str} {params : Arguments} {body : List Stmt} {scope : Scope} {dV kV doc pm cdv ct oc : Value} {an od : Option Addr}
    {osl : Array (Option Value)} {N ps : List Str} {sp : Sp} (lk : K.lookup f = some ⟨oc, od, .func (PySem.W.fnOf name qual params body scope dV kV doc pm an cdv ct), osl⟩) (hcd : PySem.W.codeIn K cdv qual = true) (S : FnScope N ps scope)
    (len : ∀ vs H Q E, sp vs H Q E → vs.length = ps.length)
    (hbody : ∀ (A : Around) (outer : List Env) (s : Shared) (H : Hp) (vs : List V) (Q : VK) (E : XK), Room k (A.deeper (envOfC qual scope s.heap.objs.size f cdv)) → sp vs H Q E →
      ∃ t, PSs (cxOf CX P w K mg base N qual scope f cdv A outer s H E) body t ∧ t { nx := fun _ H' => Q .non H', rt := Q } (start N vs) H) :
    FnOk P w K mg base CX (k + 1) f (PySem.W.fnOf name qual params body scope dV kV doc pm an cdv ct) ps sp := by
  refine ⟨len, fun A outer s H args us vs Q E hr e0 hb r hsp => ?_⟩
  have hl := len _ _ _ _ hsp
  have KX : K.In s.heap := e0.mod.kin.keeps fun b o e => (e0.bs b o e).1
  have lim : s.heap.NoLimit := e0.mod.nolimit.keeps fun b o e => (e0.bs b o e).1
  have hkind : ∀ y ∈ ps.zip us, scope.names.lookup y.1 = some .local ∨ (scope.names.lookup y.1 = some .cell ∧ ((cellsFrom (s.heap.objs.size + 1) scope.names []).lookup y.1).isSome = true) := fun ⟨n, v⟩ hy => by
    rcases S.par n (List.of_mem_zip hy).1 with q | q
    · exact .inl q
    · exact .inr ⟨q, PySem.W.cellsFrom_some _ _ _ (.inl q)⟩
  refine codeAny_call_function hr.depth (KX _ _ lk) rfl S.co S.gen rfl (PySem.W.codeRec_of KX hcd) (hb _ _ _ _ ?_)
  refine wpAny_newFunctionEnv_cells S.kind hkind fun env he s1 x => ?_
  subst he
  refine ⟨lim.keeps x.toInCall.keep, codeAny_func ?_⟩
  obtain ⟨t, ht, hq⟩ := hbody A outer s H vs Q E (hr.deeper _) hsp
  have I : Inv (cxOf CX P w K mg base N qual scope f cdv A outer s H E) [] (start N vs) H s1 := inv_start S hr.hd e0 hl r x
  refine wpAny_mono (ht [] s1 (start N vs) H _ I hq) (fun fl s' hs => ?_) fun e s' hs => hs
  have fin : ∀ {σ' : St} {H' : Hp} {v : V} {u : Value}, Inv (cxOf CX P w K mg base N qual scope f cdv A outer s H E) [] σ' H' s' → RelV v u → Q v H' → CE outer P w H s Q u s' :=
    fun {σ' H' v u} J rv q => ⟨v, H', J.os, J.bare, J.base, J.hok, rv, q⟩
  cases fl with
  | ret u =>
    obtain ⟨v, σ', H', J, rv, q⟩ := hs
    exact fin J rv q
  | next =>
    obtain ⟨σ', H', J, q⟩ := hs
    exact fin (v := V.non) (u := Value.none) J rfl q
  | brk =>
    obtain ⟨_, _, _, q⟩ := hs
    exact False.elim q
  | cont =>
    obtain ⟨_, _, _, q⟩ := hs
    exact False.elim q
end L2
namespace L2
open PySem PySem.Spec PyProof.Rows
section
variable {X : Cx} {x : Str} {p pos : Pos} {e : Expr} {es : List Expr} {t : TA} {id T : String} {r : List V → Hp → VK → Prop}
def tCB (r : List V → Hp → VK → Prop) (t : TA) : TE := fun σ H Q => t σ H fun vs H1 => r vs H1 Q
theorem pe_callB (hc : CallR X (.builtin id) r) (hg : Gl X x) (hm : X.mg x = none) (hv : bootBuiltins x = some (.builtin id)) (ha : PA X (e :: es) t) (hn : x ≠ "__name__" := by decide) (hdb : (x == ("__debug__" : Str)) = false := by decide)
    (he : starEach (e :: es) X.env = (false, eval e X.env) :: starEach es X.env := by rfl) (hpl : (backTo pos (starEach es X.env)).any (·.1) = false := by rfl) : PE X (.Call (.Name x p) (e :: es) [] pos) (tCB r t) := by
  intro pins s σ H Q I h
  refine wpAny_Call_Name_kw (ld_blt I hg hm hv ?_ hn hdb)
  exact PyProof.Rows.callWith_builtin1 (thn (ha pos pins s σ H _ I h) fun us s1 ⟨vs, H1, I1, r1, q1⟩ => hc pins s1 σ H1 vs us Q I1 r1 q1) he hpl
theorem pe_callTy (hc : CallR X (.type T) r) (hg : Gl X x) (hm : X.mg x = none) (hv : bootBuiltins x = some (.type T)) (ha : PA X (e :: es) t) (hn : x ≠ "__name__" := by decide) (hdb : (x == ("__debug__" : Str)) = false := by decide)
    (he : starEach (e :: es) X.env = (false, eval e X.env) :: starEach es X.env := by rfl) (hpl : (backTo pos (starEach es X.env)).any (·.1) = false := by rfl) : PE X (.Call (.Name x p) (e :: es) [] pos) (tCB r t) := by
  intro pins s σ H Q I h
  refine wpAny_Call_Name_kw (ld_blt I hg hm hv ?_ hn hdb)
  exact PyProof.Rows.callWith_type1 (thn (ha pos pins s σ H _ I h) fun us s1 ⟨vs, H1, I1, r1, q1⟩ => hc pins s1 σ H1 vs us Q I1 r1 q1) he hpl
end
end L2
namespace HT
open PySem PyProof.Rows
section
open PySem.SeqAt
open PySem.AutoSeq1 (wpAny_loadPart')
open PySem.MeetsSeq PySem.MeetsSeq2 PySem.MeetsSeq3
end
section
variable {prog : Program} {w : World} {A : Around} {E : Value → Shared → Prop} {s : Shared}
def sIx (n d : Nat) : Option Int → Nat
  | none => d
  | some v => if v < 0 then (v + (n : Int)).toNat else min v.toNat n
end
end HT
namespace L2
open PySem PySem.Spec PyProof.Rows
abbrev TO := St → Hp → (Option Int → Hp → Prop) → Prop
def PO (X : Cx) (e : Option Expr) (t : TO) : Prop :=
  ∀ (pins : List (Addr × Obj)) (s : Shared) (σ : St) (H : Hp) (Q : Option Int → Hp → Prop), Inv X pins σ H s → t σ H Q →
    wpAny (model X.prog X.w) X.A (evalPart e X.env) (fun u s' => ∃ o H', Inv X pins σ H' s' ∧ IsPart u o ∧ Q o H') X.xe s
def tNoPart : TO := fun _ H Q => Q none H
def tPart (t : TE) : TO := fun σ H Q => t σ H fun x H1 => ∃ i, x = .int i ∧ Q (some i) H1
section
variable {X : Cx} {e : Expr} {te : TE} {lo hi : Option Expr} {tl th : TO} {pos p2 : Pos}
theorem po_none : PO X none tNoPart := by
  intro pins s σ H Q I h
  rw [evalPart_none]
  exact wpAny_pure ⟨none, H, I, .none, h⟩
theorem po_some (h : PE X e te) : PO X (some e) (tPart te) := by
  intro pins s σ H Q I hw
  rw [evalPart_some]
  refine thn (h pins s σ H _ I hw) fun u s1 ⟨x, H1, I1, r1, q1⟩ => ?_
  obtain ⟨i, rfl, q⟩ := q1
  obtain ⟨t, rfl⟩ := r1
  exact ⟨some i, H1, I1, .int i t, q⟩
def SlR (X : Cx) (r : V → Option Int → Option Int → Hp → VK → Prop) : Prop :=
  ∀ (pins : List (Addr × Obj)) (s : Shared) (σ : St) (H : Hp) (x : V) (v vl vu : Value) (lo hi : Option Int) (sl : Addr) (Q : VK), Inv X pins σ H s → RelV x v → s.heap.IsSliceOf sl vl vu .none → IsPart vl lo → IsPart vu hi → r x lo hi H Q →
    ∃ T id, typeLookup (.type T) "__getitem__" = pure (some (.builtin id)) ∧ s.TypeIs v T ∧ wpAny (model X.prog X.w) X.A (getItem v (.ref sl)) (EP X pins σ Q) X.xe s
def tSl (r : V → Option Int → Option Int → Hp → VK → Prop) (te : TE) (tl th : TO) : TE := fun σ H Q => te σ H fun x H1 => tl σ H1 fun l H2 => th σ H2 fun u H3 => r x l u H3 Q
theorem pe_slice {r : V → Option Int → Option Int → Hp → VK → Prop} (hr : SlR X r) (he : PE X e te) (hl : PO X lo tl) (hu : PO X hi th) : PE X (.Subscript e (.Slice lo hi none p2) pos) (tSl r te tl th) := by
  intro pins s σ H Q I h
  refine Subscript_ (thn (he pins s σ H _ I h) fun v s1 ⟨x, H1, I1, r1, q1⟩ => ?_)
  refine wpAny_Slice (thn (hl pins s1 σ H1 _ I1 q1) fun vl s2 ⟨l, H2, I2, pl, q2⟩ => thn (hu pins s2 σ H2 _ I2 q2) fun vu s3 ⟨u, H3, I3, pu, q3⟩ => ?_)
  rw [evalPart_none]
  refine wpAny_pure ?_
  have I4 : Inv X pins σ H3 { s3 with heap := s3.heap.push { cls := .type "slice", data := .fields #[vl, vu, .none] } } := I3.kept (t' := s3.toks) fun b ob q => Heap.get?_push_of_some _ q
  obtain ⟨T, id, hT, ht, hg⟩ := hr pins { s3 with heap := s3.heap.push { cls := .type "slice", data := .fields #[vl, vu, .none] } } σ H3 x v vl vu l u s3.heap.objs.size Q I4 r1 (Heap.IsSliceOf.new ..) pl pu q3
  show wpAny (model X.prog X.w) X.A (subscriptTail e (.Slice lo hi none p2) v (.ref s3.heap.objs.size)) (EP X pins σ Q) X.xe { s3 with heap := s3.heap.push { cls := .type "slice", data := .fields #[vl, vu, .none] } }
  exact tail_any (ops := [.ref s3.heap.objs.size, v]) ht hT hg (by with_unfolding_all rfl)
def cutV (xs : List V) (lo hi : Option Int) : List V := (xs.drop (HT.sIx xs.length 0 lo)).take (HT.sIx xs.length xs.length hi - HT.sIx xs.length 0 lo)
theorem cutV_length (xs : List V) (lo hi : Option Int) : (cutV xs lo hi).length ≤ xs.length := by
  unfold cutV
  rw [List.length_take, List.length_drop]
  omega
end
end L2
namespace L2
open PySem PySem.Spec PyProof.Rows
def ixN (n : Nat) (i : Int) : Option Nat := if 0 ≤ i then (if i < n then some i.toNat else none) else if -(n : Int) ≤ i then some (i + n).toNat else none
def atI {α : Type} (xs : List α) (i : Int) : Option α := (ixN xs.length i).bind fun j => xs[j]?
theorem ixN_seq {n : Nat} {i : Int} {j : Nat} (h : ixN n i = some j) : seqIndex? i n = some j ∧ j < n ∧ -(n : Int) ≤ i ∧ i < n := by
  unfold ixN at h
  by_cases h0 : 0 ≤ i
  · rw [if_pos h0] at h
    by_cases h1 : i < n
    · rw [if_pos h1] at h
      have e : i.toNat = j := Option.some.inj h
      exact ⟨by rw [seqIndex_of h0 h1, e], by omega, by omega, h1⟩
    · rw [if_neg h1] at h; cases h
  · rw [if_neg h0] at h
    by_cases h1 : -(n : Int) ≤ i
    · rw [if_pos h1] at h
      have e : (i + n).toNat = j := Option.some.inj h
      exact ⟨by rw [seqIndex_neg (by omega) h1, e], by omega, h1, by omega⟩
    · rw [if_neg h1] at h; cases h
theorem atI_get {α : Type} {xs : List α} {i : Int} {v : α} (h : atI xs i = some v) : ∃ j, seqIndex? i xs.length = some j ∧ xs[j]? = some v ∧ j < xs.length ∧ -(xs.length : Int) ≤ i ∧ i < xs.length := by
  unfold atI at h
  cases e : ixN xs.length i with
  | none => rw [e] at h; cases h
  | some j =>
    rw [e] at h
    obtain ⟨h1, h2, h3, h4⟩ := ixN_seq e
    exact ⟨j, h1, h, h2, h3, h4⟩
theorem atI_nat {α : Type} {xs : List α} {j : Nat} {v : α} (h : xs[j]? = some v) : atI xs (j : Int) = some v := by
  have hj : j < xs.length := (List.getElem?_eq_some_iff.mp h).1
  have e : ixN xs.length (j : Int) = some j := by
    unfold ixN
    rw [if_pos (by omega), if_pos (by omega)]; simp
  unfold atI; rw [e]; exact h
def PlainIx (b : Expr) : Prop := ∀ o i, subscripted b false o i = operate [o, i] (getItem o i)
def IxR (X : Cx) (r : R2) : Prop :=
  ∀ (value slice : Expr) (pins : List (Addr × Obj)) (s : Shared) (σ : St) (H : Hp) (x y : V) (v u : Value) (Q : VK), Inv X pins σ H s → RelV x v → RelV y u → r x y H Q →
    subscripted slice false v u = operate [v, u] (getItem v u) → wpAny (model X.prog X.w) X.A (subscriptTail value slice v u) (EP X pins σ Q) X.xe s
def MtR (X : Cx) (id : String) (r : V → List V → Hp → VK → Prop) : Prop :=
  ∀ (pins : List (Addr × Obj)) (s : Shared) (σ : St) (H : Hp) (x : V) (xs : List V) (v : Value) (us : List Value) (Q : VK), Inv X pins σ H s → RelV x v → Vals xs us → r x xs H Q →
    wpAny (model X.prog X.w) X.A (call (.builtin id) (v :: us)) (EP X pins σ Q) X.xe s
section
variable {X : Cx} {a b : Expr} {ta tb : TE} {pos : Pos}
theorem pe_ix {r : R2} (hr : IxR X r) (ha : PE X a ta) (hb : PE X b tb) (hs : PlainIx b) : PE X (.Subscript a b pos) (tOp r ta tb) := by
  intro pins s σ H Q I h
  exact Subscript_ (binT ha hb I h fun v u s2 x y H2 I2 rx ry q => hr a b pins s2 σ H2 x y v u Q I2 rx ry q (hs _ _))
def rIxL (K : PySem.W.Frag) : R2 := fun x y H Q => ∃ p xs i v, x = .ref p ∧ y = .int i ∧ SqL K H p xs ∧ atI xs i = some v ∧ Q v H
def rIxT (K : PySem.W.Frag) : R2 := fun x y H Q => ∃ p xs i v, x = .ref p ∧ y = .int i ∧ SqT K H p xs ∧ atI xs i = some v ∧ Q v H
theorem ix_list : IxR X (rIxL X.K) := by
  intro value slice pins s σ H x y v u Q I rx ry h hs
  obtain ⟨p, xs, i, z, rfl, rfl, hq, he, q⟩ := h
  cases rx
  obtain ⟨t, rfl⟩ := ry
  obtain ⟨its, r, pl, hz⟩ := I.list hq
  obtain ⟨j, h1, h2, h3, h4, h5⟩ := atI_get he
  obtain ⟨w, ew, rw'⟩ := r.get h2
  have hl := r.length
  have hn := line63
  have fin : EP X pins σ Q w s := ⟨z, H, I, rw', q⟩
  by_cases h0 : 0 ≤ i
  · have hj : i.toNat = j := by
      rw [seqIndex_of h0 h5] at h1
      exact Option.some.inj h1
    exact item_listR pl.isList h0 (by omega) (by rw [hj]; simpa using ew) fin hs
  · have hj : (i + (its.toArray.size : Int)).toNat = j := by
      rw [seqIndex_neg (by omega) h4] at h1
      rw [List.size_toArray, ← hl]
      exact Option.some.inj h1
    exact subscriptTail_builtinR (x := w) pl.isList.typeIs slot_list_getitem.lookup
      (wpAny_getItem_list_neg (Q := fun r s' => r = w ∧ EP X pins σ Q r s') pl.isList (by omega) (by rw [List.size_toArray] <;> omega) (by omega) (by rw [hj]; simpa using ew) ⟨rfl, fin⟩) hs
theorem ix_tup : IxR X (rIxT X.K) := by
  intro value slice pins s σ H x y v u Q I rx ry h hs
  obtain ⟨p, xs, i, z, rfl, rfl, hq, he, q⟩ := h
  cases rx
  obtain ⟨t, rfl⟩ := ry
  obtain ⟨its, r, pl, hz⟩ := I.tuple hq
  obtain ⟨j, h1, h2, h3, h4, h5⟩ := atI_get he
  obtain ⟨w, ew, rw'⟩ := r.get h2
  have hl := r.length
  have hn := line63
  have fin : EP X pins σ Q w s := ⟨z, H, I, rw', q⟩
  exact subscriptTail_builtinR (x := w) pl.typeIs slot_tuple_getitem.lookup
    (getItem_tuple (j := j) (Q := fun r s' => r = w ∧ EP X pins σ Q r s') pl (by omega) (by omega) (by rw [List.size_toArray, ← hl]; exact h1) (by simpa using ew) ⟨rfl, fin⟩) hs
theorem mapSeq_set (its : List Value) (n j : Nat) (u : Value) : Obj.mapSeq (·.setIfInBounds j u) { cls := .type "list", data := .seq its.toArray n } = { cls := .type "list", data := .seq (its.set j u).toArray n } := by
  simp [Obj.mapSeq]
theorem Inv.lst {pins : List (Addr × Obj)} {σ : St} {H : Hp} {s : Shared} {p : Addr} {xs : List V} (I : Inv X pins σ H s) (h : H p = some (.lst xs)) :
    ∃ (its : List Value) (n : Nat), Vals xs its ∧ s.heap.get? p = some { cls := .type "list", data := .seq its.toArray n } ∧ xs.length ≤ sizeLine := by
  obtain ⟨z, its, n, r, e⟩ := I.hok p _ h
  exact ⟨its, n, r, e, z⟩
theorem Inv.lstUpd {pins : List (Addr × Obj)} {σ : St} {H : Hp} {s : Shared} {p : Addr} {xs ys : List V} {its its' : List Value} {n n' : Nat} {f : Obj → Obj} (I : Inv X pins σ H s) (h : H p = some (.lst xs))
    (ho : s.heap.get? p = some { cls := .type "list", data := .seq its.toArray n }) (hf : f { cls := .type "list", data := .seq its.toArray n } = { cls := .type "list", data := .seq its'.toArray n' }) (r : Vals ys its') (hz : ys.length ≤ sizeLine) (t : Nat) :
    Inv X pins σ (upd H p (.lst ys)) { s with heap := s.heap.update p f, toks := t } := by
  have e : (s.heap.update p f).get? p = some { cls := .type "list", data := .seq its'.toArray n' } := by
    rw [Heap.get?_update_self f ho (by rw [hf] <;> rfl), hf]
  refine I.write (x := p) (e := p) (by rw [h]; trivial) (.inl rfl) (fun b u hb q => (Heap.get?_update_other _ _ (Ne.symm hb)).trans q) ⟨_, e⟩ ?_
  exact ⟨hz, its', n', r, e⟩
def rSetL : V → V → V → Hp → (Hp → Prop) → Prop := fun o i v H Q => ∃ p xs k j, o = .ref p ∧ i = .int k ∧ H p = some (.lst xs) ∧ ixN xs.length k = some j ∧ Q (upd H p (.lst (xs.set j v)))
theorem set_list : PSet X rSetL := by
  intro pins s σ H o i v ov iv u Q I ro ri rv h
  obtain ⟨p, xs, k, j, rfl, rfl, hp, hj, q⟩ := h
  cases ro
  obtain ⟨t, rfl⟩ := ri
  obtain ⟨its, n, r, ho, hz⟩ := I.lst hp
  obtain ⟨h1, h2, h3, h4⟩ := ixN_seq hj
  have hl := r.length
  have hn := line63
  have I' : Inv X pins σ (upd H p (.lst (xs.set j v))) { s with heap := s.heap.update p (Obj.mapSeq (·.setIfInBounds j u)) } :=
    I.lstUpd hp ho (mapSeq_set its n j u) (r.set rv j) (by rw [List.length_set]; exact hz) s.toks
  by_cases h0 : 0 ≤ k
  · have hk : k.toNat = j := by
      rw [seqIndex_of h0 h4] at h1
      exact Option.some.inj h1
    exact PySem.W.ki_setAt ho h0 (by omega) (by rw [List.size_toArray, ← hl]; exact h4) (by rw [hk]; exact ⟨_, I', q⟩)
  · have hk : (k + (its.toArray.size : Int)).toNat = j := by
      rw [seqIndex_neg (by omega) h3] at h1
      rw [List.size_toArray, ← hl]
      exact Option.some.inj h1
    exact PySem.W.ki_setBack ho (by omega) (by rw [List.size_toArray, ← hl]; exact h3) (by omega) (by rw [hk]; exact ⟨_, I', q⟩)
theorem slice_bounds (lo hi : Option Int) (n : Nat) : (sliceBounds lo hi none n).1 = ((HT.sIx n 0 lo : Nat) : Int) ∧ (sliceBounds lo hi none n).2.1 = ((HT.sIx n n hi : Nat) : Int) ∧ (sliceBounds lo hi none n).2.2 = 1 := by
  refine ⟨?_, ?_, rfl⟩
  · cases lo with
    | none => simp [sliceBounds, HT.sIx]
    | some i =>
      simp only [sliceBounds, HT.sIx, Option.getD_none, show (1 : Int) > 0 by decide, if_true]
      by_cases h : i < 0
      · simp only [h, if_true] <;> omega
      · simp only [h, if_false] <;> omega
  · cases hi with
    | none => simp [sliceBounds, HT.sIx]
    | some i =>
      simp only [sliceBounds, HT.sIx, Option.getD_none, show (1 : Int) > 0 by decide, if_true]
      by_cases h : i < 0
      · simp only [h, if_true] <;> omega
      · simp only [h, if_false] <;> omega
theorem slicePick_cut (its : List Value) (lo hi : Option Int) : slicePick its.toArray lo hi none = ((its.drop (HT.sIx its.length 0 lo)).take (HT.sIx its.length its.length hi - HT.sIx its.length 0 lo)).toArray := by
  obtain ⟨h1, h2, h3⟩ := slice_bounds lo hi its.toArray.size
  unfold slicePick
  rw [h1, h2, h3]
  simp only [sliceRange_one, pick_run, List.size_toArray] <;> rfl
def rSlL (K : PySem.W.Frag) : V → Option Int → Option Int → Hp → VK → Prop := fun x lo hi H Q => ∃ a xs, x = .ref a ∧ SqL K H a xs ∧ ∀ p, H p = none → Q (.ref p) (upd H p (.lst (cutV xs lo hi)))
theorem sl_list : SlR X (rSlL X.K) := by
  intro pins s σ H x v vl vu lo hi sl Q I rx hs pl pu h
  obtain ⟨a, xs, rfl, hx, q⟩ := h
  cases rx
  obtain ⟨its, r, ht, hz⟩ := I.list hx
  have hlen := r.length
  refine ⟨"list", _, slot_list_getitem.lookup, ht.isList.typeIs, ?_⟩
  refine wpAny_getItem_list_slice ht.isList hs pl pu .none (by simp) ?_ (by rw [List.size_toArray] <;> omega)
  rw [slicePick_cut, ← hlen]
  refine ⟨.ref s.heap.objs.size, _, I.laid (t' := s.toks) (o := .lst (cutV xs lo hi)) (fun b ob q => Heap.get?_push_of_some _ q) (Nat.le_refl _) ?_, rfl, q _ (I.hok.fresh (Nat.le_refl _))⟩
  exact ⟨Nat.le_trans (cutV_length xs lo hi) hz, _, 0, (r.drop (HT.sIx xs.length 0 lo)).take (HT.sIx xs.length xs.length hi - HT.sIx xs.length 0 lo), Heap.get?_push_size _ rfl⟩
def flatV : V → Bool
  | .non => true
  | .bl _ => true
  | .int _ => true
  | .str _ => true
  | _ => false
def eqV : V → V → Bool
  | .non, .non => true
  | .bl a, .bl b => a == b
  | .bl a, .int b => (if a then 1 else 0) == b
  | .int a, .bl b => a == (if b then 1 else 0)
  | .int a, .int b => a == b
  | .str a, .str b => a == b
  | _, _ => false
theorem eqAt_V {A : Around} {s : Shared} {y x : V} {u v : Value} (ry : RelV y u) (rx : RelV x v) (fy : flatV y = true) (fx : flatV x = true) : SeqAt.EqAt A s u v (eqV y x) := by
  cases y with
  | non =>
    cases ry
    cases x with
    | non => cases rx; exact SeqAt.EqAt.same _
    | bl b => cases rx; exact SeqAt.EqAt.none_bool b
    | int b => obtain ⟨t, rfl⟩ := rx; exact SeqAt.EqAt.none_int b t
    | str b => obtain ⟨t, rfl⟩ := rx; exact SeqAt.EqAt.none_str b t
    | _ => exact absurd (show false = true from fx) Bool.false_ne_true
  | bl a =>
    cases ry
    cases x with
    | non => cases rx; exact SeqAt.EqAt.bool_none a
    | bl b => cases rx; exact SeqAt.EqAt.bool_bool a b
    | int b => obtain ⟨t, rfl⟩ := rx; exact SeqAt.EqAt.bool_int a b t
    | str b => obtain ⟨t, rfl⟩ := rx; exact SeqAt.EqAt.bool_str a b t
    | _ => exact absurd (show false = true from fx) Bool.false_ne_true
  | int a =>
    obtain ⟨t', rfl⟩ := ry
    cases x with
    | non => cases rx; exact SeqAt.EqAt.int_none a t'
    | bl b => cases rx; exact SeqAt.EqAt.int_bool a t' b
    | int b => obtain ⟨t, rfl⟩ := rx; exact SeqAt.EqAt.int_int a t' b t
    | str b => obtain ⟨t, rfl⟩ := rx; exact SeqAt.EqAt.int_str a t' b t
    | _ => exact absurd (show false = true from fx) Bool.false_ne_true
  | str a =>
    obtain ⟨t', rfl⟩ := ry
    cases x with
    | non => cases rx; exact SeqAt.EqAt.str_none a t'
    | bl b => cases rx; exact SeqAt.EqAt.str_bool a t' b
    | int b => obtain ⟨t, rfl⟩ := rx; exact SeqAt.EqAt.str_int a t' b t
    | str b => obtain ⟨t, rfl⟩ := rx; exact SeqAt.EqAt.str_str a t' b t
    | _ => exact absurd (show false = true from fx) Bool.false_ne_true
  | _ => exact absurd (show false = true from fy) Bool.false_ne_true
def eqU (x : V) (u : Value) : Bool := match u with
  | .none => eqV .non x
  | .bool b => eqV (.bl b) x
  | .int i _ => eqV (.int i) x
  | .str z _ => eqV (.str z) x
  | _ => false
theorem eqU_of {x y : V} {u : Value} (r : RelV y u) (f : flatV y = true) : eqU x u = eqV y x := by
  cases y with
  | non => cases r; rfl
  | bl b => cases r; rfl
  | int i => obtain ⟨t, rfl⟩ := r; rfl
  | str z => obtain ⟨t, rfl⟩ := r; rfl
  | _ => exact absurd (show false = true from f) Bool.false_ne_true
theorem mem_eqAt {A : Around} {s : Shared} {x : V} {v : Value} (rx : RelV x v) (fx : flatV x = true) : ∀ {xs : List V} {us : List Value}, Vals xs us → xs.all flatV = true → ∀ u ∈ us, SeqAt.EqAt A s u v (eqU x u)
  | _, _, .nil, _ => fun u hu => by cases hu
  | y :: xs, u :: us, .cons r t, f => fun u' hu => by
    rw [List.all_cons, Bool.and_eq_true] at f
    rcases List.mem_cons.mp hu with rfl | hu
    · rw [eqU_of r f.1]; exact eqAt_V r rx f.1 fx
    · exact mem_eqAt rx fx t f.2 u' hu
theorem call_len_seq : CallR X (.builtin "len") (fun xs H Q => ∃ p ys, xs = [.ref p] ∧ (SqL X.K H p ys ∨ SqT X.K H p ys) ∧ Q (.int ys.length) H) := by
  intro pins s σ H xs us Q I r h
  obtain ⟨p, ys, rfl, hq, q⟩ := h
  obtain ⟨u, rfl, rx⟩ := vals1 r
  cases rx
  have hn := line63
  rcases hq with hq | hq
  · obtain ⟨its, r', pl, hz⟩ := I.list hq
    have hlen := r'.length
    exact Calls.call_len_list pl.isList (by simp only [List.size_toArray] <;> omega) ⟨.int ys.length, H, I.tok _, ⟨s.toks + 1, by rw [List.size_toArray, hlen]⟩, q⟩
  · obtain ⟨its, r', pl, hz⟩ := I.tuple hq
    have hlen := r'.length
    exact len_tuple pl (by simp only [List.size_toArray] <;> omega) ⟨.int ys.length, H, I.tok _, ⟨s.toks + 1, by rw [List.size_toArray, hlen]⟩, q⟩
theorem call_list_of : CallR X (.type "list") (fun xs H Q => ∃ p ys, xs = [.ref p] ∧ (SqL X.K H p ys ∨ SqT X.K H p ys) ∧ ∀ l, H l = none → Q (.ref l) (upd H l (.lst ys))) := by
  intro pins s σ H xs us Q I r h
  obtain ⟨p, ys, rfl, hq, q⟩ := h
  obtain ⟨u, rfl, rx⟩ := vals1 r
  cases rx
  have fin : ∀ (its : List Value), Vals ys its → ys.length ≤ sizeLine → ∀ (h' : Heap) (c' : Nat), (∀ b o', s.heap.get? b = some o' → h'.get? b = some o') →
      h'.get? s.heap.objs.size = some { cls := .type "list", dict := none, data := .seq its.toArray c', slots := #[] } → EP X pins σ Q (.ref s.heap.objs.size) { s with heap := h' } := fun its r' hz h' c' kp e =>
    ⟨.ref s.heap.objs.size, _, I.laid (t' := s.toks) kp (Nat.le_refl _) (show ObjOk X.prog X.w _ h' _ (.lst ys) from ⟨hz, its, c', r', e⟩), rfl, q _ (I.hok.fresh (Nat.le_refl _))⟩
  rcases hq with hq | hq
  · obtain ⟨its, r', pl, hz⟩ := I.list hq
    have hlen := r'.length
    obtain ⟨o, ho, hc, n, hd⟩ := pl.isList
    exact call_list_seq p (.inl rfl) ho hc hd (fun h' c' kp e => fin its r' hz h' c' kp e) (by simp only [List.size_toArray] <;> omega)
  · obtain ⟨its, r', pl, hz⟩ := I.tuple hq
    have hlen := r'.length
    obtain ⟨o, ho, hc, n, hd⟩ := pl
    exact call_list_seq p (.inr rfl) ho hc hd (fun h' c' kp e => fin its r' hz h' c' kp e) (by simp only [List.size_toArray] <;> omega)
def tyV (K : PySem.W.Frag) (T : String) (x : V) (H : Hp) : Prop := match x with
  | .str _ => T = "str"
  | .int _ => T = "int"
  | .ref p => (T = "list" ∧ ∃ xs, SqL K H p xs) ∨ (T = "tuple" ∧ ∃ o, K.lookup p = some o ∧ o.cls = .type "tuple" ∧ o.dict = none) ∨
      (T = "dict" ∧ ((∃ kvs, H p = some (.dK kvs)) ∨ ∃ kvs, H p = some (.dT kvs))) ∨ (T = "set" ∧ ∃ S n, H p = some (.set S n))
  | _ => False
theorem tyV_is {pins : List (Addr × Obj)} {σ : St} {H : Hp} {s : Shared} {T : String} {x : V} {v : Value} (I : Inv X pins σ H s) (r : RelV x v) (ty : tyV X.K T x H) :
    s.TypeIs v T ∧ ∀ a, v = .ref a → ∃ ob, s.heap.get? a = some ob ∧ ob.dict = none := by
  cases x with
  | str z =>
    obtain ⟨t, rfl⟩ := r
    cases (show T = "str" from ty)
    exact ⟨typeIs_str s z t, fun _ e => nomatch e⟩
  | int i =>
    obtain ⟨t, rfl⟩ := r
    cases (show T = "int" from ty)
    exact ⟨typeIs_int s i t, fun _ e => nomatch e⟩
  | ref p =>
    cases r
    rcases ty with ⟨rfl, xs, hq⟩ | ⟨rfl, o, hk, hc, hd⟩ | ⟨rfl, hk⟩ | ⟨rfl, S, n, hk⟩
    · obtain ⟨its, _, pl, _⟩ := I.list hq
      refine ⟨pl.isList.typeIs, fun a e => ?_⟩
      cases e
      obtain ⟨o, n, e, c, hd, _⟩ := pl
      exact ⟨o, e, hd⟩
    · refine ⟨⟨o, I.kIn p o hk, hc⟩, fun a e => ?_⟩
      cases e
      exact ⟨o, I.kIn _ o hk, hd⟩
    · have z : ∃ o, s.heap.get? p = some o ∧ o.ExactDict := by
        rcases hk with ⟨kvs, hk⟩ | ⟨kvs, hk⟩
        · obtain ⟨_, _, _, _, o, _, _, e, ex, _⟩ := I.hok p _ hk
          exact ⟨o, e, ex⟩
        · obtain ⟨_, _, _, _, o, _, _, e, ex, _⟩ := I.hok p _ hk
          exact ⟨o, e, ex⟩
      obtain ⟨o, e, ex⟩ := z
      refine ⟨⟨o, e, ex.1⟩, fun a e2 => ?_⟩
      cases e2
      exact ⟨o, e, ex.2.1⟩
    · obtain ⟨o, _, _, _, e, ex, _⟩ := I.hok p _ hk
      refine ⟨⟨o, e, ex.1⟩, fun a e2 => ?_⟩
      cases e2
      exact ⟨o, e, ex.2.1⟩
  | _ => exact False.elim ty
def tBM (K : PySem.W.Frag) (T : String) (r : V → List V → Hp → VK → Prop) (to : TE) (t : TA) : TE := fun σ H Q => to σ H fun x H1 => tyV K T x H1 ∧ t σ H1 fun xs H2 => r x xs H2 Q
variable {o e : Expr} {es : List Expr} {to : TE} {t : TA} {name : Str} {apos cpos : Pos} {T id : String} {r : V → List V → Hp → VK → Prop}
theorem pe_bm (pa : PlainAttrs T) (slot : Slot T name id) (hty : typeOf (.builtin id) = pure (.type "method_descriptor")) (hm : MtR X id r) (ho : PE X o to) (ha : PA X (e :: es) t)
    (hbase : attributeBase o name X.env (eval o X.env) = eval o X.env := by rfl)
    (hfew : ((backTo cpos (starEach (e :: es) X.env)).all (fun x => !x.1) && (backToKw cpos (keywordEach [] X.env)).all (fun x => x.1.isSome)
      && decide ((e :: es).length + ([] : List Keyword).length + (if ([] : List Keyword).isEmpty then 0 else 1) < 30)) = true := by rfl)
    (hline : (apos.endLine == cpos.line) = true := by rfl) (hs : starEach (e :: es) X.env = (false, eval e X.env) :: starEach es X.env := by rfl) (hplain : (backTo cpos (starEach es X.env)).any (·.1) = false := by rfl) :
    PE X (.Call (.Attribute o name apos) (e :: es) [] cpos) (tBM X.K T r to t) := by
  intro pins s σ H Q I h
  refine wpAny_Call_method_late hbase hfew hline rfl (thn (ho pins s σ H _ I h) fun v s1 ⟨x, H1, I1, r1, ty, q1⟩ => ?_)
  obtain ⟨h1, h2⟩ := tyV_is I1 r1 ty
  refine ⟨T, id, pa, slot, hty, h1, h2, ?_⟩
  have hA := ha cpos pins s1 σ H1 _ I1 q1
  rw [hs] at hA ⊢
  refine Calls.callWith_builtin (by show (false || (backTo cpos (starEach es X.env)).any (·.1)) = false; rw [hplain] <;> rfl) (Calls.evalArgs_plain ?_)
  exact thn hA fun us s2 ⟨vs, H2, I2, r2, q2⟩ => hm pins s2 σ H2 x vs v us Q I2 r1 r2 q2
end
end L2
namespace L2
open PySem PySem.Spec PyProof.Rows
def MtM (X : Cx) (id : String) (r : V → List V → Hp → VK → Prop) : Prop :=
  ∀ (pins : List (Addr × Obj)) (s : Shared) (σ : St) (H : Hp) (x : V) (xs : List V) (v : Value) (us : List Value) (Q : VK), Inv X pins σ H s → RelV x v → Vals xs us → r x xs H Q →
    wpAny (model X.prog X.w) X.A (call (.builtin id) (v :: us)) (EP X pins σ Q) X.xe s
theorem Vals.one : ∀ {x : V} {us : List Value}, Vals [x] us → ∃ u, us = [u] ∧ RelV x u
  | _, _, .cons r .nil => ⟨_, rfl, r⟩
theorem Vals.rep {xs : List V} {us : List Value} (h : Vals xs us) : ∀ k : Nat, Vals (List.replicate k xs).flatten (List.replicate k us).flatten
  | 0 => .nil
  | k + 1 => by
    rw [List.replicate_succ, List.replicate_succ, List.flatten_cons, List.flatten_cons]
    exact Vals.append h (Vals.rep h k)
theorem foldl_rep (its : List Value) : ∀ (k : Nat) (acc : List Value),
    List.foldl (fun x1 x2 => x1 ++ x2) acc.toArray (List.replicate k its.toArray) = (acc ++ (List.replicate k its).flatten).toArray
  | 0, acc => by simp
  | k + 1, acc => by
    have e : acc.toArray ++ its.toArray = (acc ++ its).toArray := by simp
    have e2 : (acc ++ its) ++ (List.replicate k its).flatten = acc ++ (List.replicate (k + 1) its).flatten := by
      rw [List.replicate_succ, List.flatten_cons, List.append_assoc]
    rw [← e2, ← foldl_rep its k (acc ++ its), ← e, List.replicate_succ, List.foldl_cons]
section
variable {X : Cx} {pins : List (Addr × Obj)} {σ : St} {H : Hp} {s : Shared} {l b : Addr} {xs ys zs : List V}
theorem Inv.lset {its its' : List Value} {n : Nat} {f : Array Value → Array Value} {t' : Nat} (I : Inv X pins σ H s) (hH : H l = some (.lst xs))
    (e : s.heap.get? l = some { cls := .type "list", data := .seq its.toArray n }) (hf : f its.toArray = its'.toArray) (hv : Vals ys its') (hz : ys.length ≤ sizeLine) :
    Inv X pins σ (upd H l (.lst ys)) { s with heap := s.heap.update l (Obj.mapSeq f), toks := t' } := by
  have q := PySem.IsL.update e f
  rw [hf] at q
  refine I.write (x := l) (e := l) (by rw [hH]; exact trivial) (.inl rfl) (fun b' u hb hu => (Heap.get?_update_other s.heap (Obj.mapSeq f) (Ne.symm hb)).trans hu) ⟨_, q⟩ ?_
  exact ⟨hz, its', _, hv, q⟩
theorem Inv.lnew {its : List Value} {t' : Nat} (I : Inv X pins σ H s) (hv : Vals ys its) (hz : ys.length ≤ sizeLine) :
    Inv X pins σ (upd H s.heap.objs.size (.lst ys)) { s with heap := s.heap.push { cls := .type "list", data := .seq its.toArray }, toks := t' } :=
  I.laid (fun _ _ q => Heap.get?_push_of_some _ q) (Nat.le_refl _) ⟨hz, its, 0, hv, Heap.get?_push_size _ rfl⟩
theorem Inv.fresh (I : Inv X pins σ H s) : H s.heap.objs.size = none := I.hok.fresh (Nat.le_refl _)
theorem Inv.lstM (I : Inv X pins σ H s) (hH : H l = some (.lst xs)) : xs.length ≤ sizeLine ∧ ∃ (its : List Value) (n : Nat), Vals xs its ∧ xs.length = its.length ∧ s.heap.get? l = some { cls := .type "list", data := .seq its.toArray n } := by
  obtain ⟨z, its, n, r, e⟩ := I.hok l _ hH
  exact ⟨z, its, n, r, r.length, e⟩
theorem notLongL {n : Nat} (h : n ≤ sizeLine) : Builtin.List.listTooLong n = false := by
  unfold Builtin.List.listTooLong
  exact decide_eq_false (by omega)
end
section
variable {X : Cx}
def rAppend : V → List V → Hp → VK → Prop := fun x vs H Q => ∃ l xs y, x = .ref l ∧ vs = [y] ∧ H l = some (.lst xs) ∧ xs.length < sizeLine ∧ Q .non (upd H l (.lst (xs ++ [y])))
theorem mt_append : MtM X "list.append" rAppend := by
  intro pins s σ H x vs v us Q I rx rv h
  obtain ⟨l, xs, y, rfl, rfl, hH, hz, q⟩ := h
  cases rx
  obtain ⟨u, rfl, ru⟩ := rv.one
  obtain ⟨z, its, n, r, hl, e⟩ := I.lstM hH
  refine call_meets F.slot_list_append ⟨_, e, rfl⟩ F.entry_list_append (F.args_list_append_2 _ _) (PySem.list_append l its.toArray n u (by rw [List.size_toArray]; omega)) ⟨e, ?_⟩
  refine ⟨.non, _, I.lset (its' := its ++ [u]) hH e (by simp) (r.append (.cons ru .nil)) ?_, rfl, q⟩
  rw [List.length_append, List.length_singleton]
  omega
def rExtend : V → List V → Hp → VK → Prop := fun x vs H Q => ∃ l b xs zs, x = .ref l ∧ vs = [.ref b] ∧ H l = some (.lst xs) ∧ H b = some (.lst zs) ∧ xs.length + zs.length ≤ sizeLine ∧ Q .non (upd H l (.lst (xs ++ zs)))
theorem mt_extend : MtM X "list.extend" rExtend := by
  intro pins s σ H x vs v us Q I rx rv h
  obtain ⟨l, b, xs, zs, rfl, rfl, hH, hB, hz, q⟩ := h
  cases rx
  obtain ⟨u, rfl, ru⟩ := rv.one
  cases ru
  obtain ⟨z, its, n, r, hl, e⟩ := I.lstM hH
  obtain ⟨z2, its2, n2, r2, hl2, e2⟩ := I.lstM hB
  have hsz : its.toArray.size + its2.toArray.size ≤ sizeLine := by rw [List.size_toArray, List.size_toArray]; omega
  have hlong : ¬ (!its.toArray.isEmpty && Builtin.List.listTooLong (its.toArray.size + its2.toArray.size)) = true := by
    rw [notLongL hsz, Bool.and_false]
    exact Bool.false_ne_true
  refine call_meets F.slot_list_extend ⟨_, e, rfl⟩ F.entry_list_extend (F.args_list_extend_2 _ _)
    (AutoSeq1.list_extend_list_list_0 l its.toArray n b its2.toArray n2 hlong (by rw [List.size_toArray]; omega) (by omega)) ⟨e, e2, ?_⟩
  refine ⟨.non, _, I.lset (its' := its ++ its2) hH e (by simp) (r.append r2) ?_, rfl, q⟩
  rw [List.length_append]
  omega
def rCat : R2 := fun x y H Q => ∃ l b xs zs, x = .ref l ∧ y = .ref b ∧ H l = some (.lst xs) ∧ H b = some (.lst zs) ∧ xs.length + zs.length ≤ sizeLine ∧ ∀ p, H p = none → Q (.ref p) (upd H p (.lst (xs ++ zs)))
theorem op_cat : OpR X (binaryOp .Add) rCat := by
  intro pins s σ H x y v u Q I rx ry h
  obtain ⟨l, b, xs, zs, rfl, rfl, hH, hB, hz, q⟩ := h
  cases rx
  cases ry
  obtain ⟨z, its, n, r, hl, e⟩ := I.lstM hH
  obtain ⟨z2, its2, n2, r2, hl2, e2⟩ := I.lstM hB
  refine PySem.P.add_list e e2 ?_ (by rw [List.size_toArray, List.size_toArray]; omega)
  have ea : its.toArray ++ its2.toArray = (its ++ its2).toArray := by simp
  rw [ea]
  exact ⟨.ref _, _, I.lnew (t' := s.toks) (r.append r2) (by rw [List.length_append]; omega), rfl, q _ I.fresh⟩
def rRep : R2 := fun x y H Q => ∃ l k xs, x = .ref l ∧ y = .int k ∧ H l = some (.lst xs) ∧ -(2 ^ 63) ≤ k ∧ k < 2 ^ 63 ∧ xs.length * k.toNat ≤ sizeLine ∧
  ∀ p, H p = none → Q (.ref p) (upd H p (.lst (List.replicate k.toNat xs).flatten))
theorem len_rep {α : Type} (xs : List α) (k : Nat) : (List.replicate k xs).flatten.length = k * xs.length := by
  induction k with
  | zero => simp
  | succ k ih => rw [List.replicate_succ, List.flatten_cons, List.length_append, ih, Nat.succ_mul, Nat.add_comm]
theorem op_rep : OpR X (binaryOp .Mult) rRep := by
  intro pins s σ H x y v u Q I rx ry h
  obtain ⟨l, k, xs, rfl, rfl, hH, h1, h2, hz, q⟩ := h
  cases rx
  obtain ⟨t, rfl⟩ := ry
  obtain ⟨z, its, n, r, hl, e⟩ := I.lstM hH
  have hlen : its.toArray.size * k.toNat ≤ sizeLine := by rw [List.size_toArray, ← hl]; exact hz
  have hcap : ¬ its.toArray.size * k.toNat > (2 ^ 63 - 1) / 8 := by
    have : (sizeLine : Nat) ≤ (2 ^ 63 - 1) / 8 := by decide
    omega
  have hfit : ¬ (!Builtin.List.listFitsIndex k) = true := by
    rw [fitsIndex_both h1 h2]
    exact Bool.false_ne_true
  have hlong : ¬ Builtin.List.listTooLong (its.toArray.size * k.toNat) = true := by
    rw [notLongL hlen]
    exact Bool.false_ne_true
  have hnew : List.foldl (fun x1 x2 => x1 ++ x2) #[] (List.replicate (if its.toArray.isEmpty = true then 0 else k.toNat) its.toArray) = (List.replicate k.toNat its).flatten.toArray := by
    have f0 : ∀ m : Nat, List.foldl (fun x1 x2 => x1 ++ x2) #[] (List.replicate m its.toArray) = (List.replicate m its).flatten.toArray := fun m => by
      have := foldl_rep its m []
      rw [List.nil_append] at this
      exact this
    rw [f0]
    cases its with
    | nil => simp
    | cons a r' => rw [if_neg (by simp)]
  refine wpAny_binaryOp_repeat_ref (T := "list") (U := "int") (by decide) ⟨_, e, rfl⟩ (fun s' => typeIs_int s' k t) noFill_list_mul F.fills_int_mul F.slot_int_rmul repeat_list F.slot_int_index.lookup
    (call_meets F.slot_int_rmul (typeIs_int s k t) F.entry_int_rmul (F.args_int_rmul_2 _ _) (int___rmul___int_list k t l its.toArray n)
      ⟨e, rfl, ⟨_, e, rfl⟩, call_meets F.slot_list_mul ⟨_, e, rfl⟩ F.entry_list_mul (F.args_list_mul_2 _ _) (AutoListH.list___mul___list_int_3 l its.toArray n k t hfit hcap hlong) ⟨e, ?_⟩⟩)
  rw [hnew]
  exact ⟨.ref _, _, I.lnew (t' := s.toks) (r.rep k.toNat) (by rw [len_rep, Nat.mul_comm]; exact hz), rfl, q _ I.fresh⟩
end
section
variable {prog : Program} {w : World} {A : Around} {E : Value → Shared → Prop} {s : Shared}
end
section
variable {X : Cx}
end
end L2
namespace L2
open PySem PySem.Spec PyProof.Rows
theorem Vals.ints : ∀ {ns : List Int} {us : List Value}, Vals (ns.map V.int) us → IntsAre us ns
  | [], us, h => by
    rw [List.map_nil] at h
    cases h
    exact IntsAre.nil
  | n :: ns, us, h => by
    rw [List.map_cons] at h
    cases h with
    | cons r t =>
      obtain ⟨k, rfl⟩ := r
      exact IntsAre.cons n k (Vals.ints t)
theorem Vals.bls : ∀ {bs : List Bool} {us : List Value}, Vals (bs.map V.bl) us → us = bs.map Value.bool
  | [], us, h => by
    rw [List.map_nil] at h
    cases h
    rfl
  | b :: bs, us, h => by
    rw [List.map_cons] at h
    cases h with
    | cons r t =>
      cases r
      rw [Vals.bls t, List.map_cons]
theorem Vals.ref1 {a : Addr} {us : List Value} (r : Vals [V.ref a] us) : us = [Value.ref a] := by
  cases r with
  | cons r t =>
    cases t
    cases r
    rfl
section
variable {prog : Program} {w : World} {A : Around} {E : Value → Shared → Prop} {s : Shared} {l : Addr} {its : List Value} {ns : List Int} {Q : Value → Shared → Prop}
theorem max_raw (hh : A.handled = none) (hl : s.heap.IsList l its.toArray) (hi : IntsAre its ns) (hne : 0 < ns.length)
    (h : ∀ h' tk M t', (∀ b o, s.heap.get? b = some o → h'.get? b = some o) → M ∈ ns → (∀ a, a ∈ ns → a ≤ M) → Q (.int M t') { s with heap := h', toks := tk }) : wpAny (model prog w) A (call (.builtin "max") [.ref l]) Q E s := by
  obtain ⟨xs, e⟩ := hi.allInts.items
  have hn : numsOf (intItems xs).toList = ns := by rw [← e]; exact hi.numsOf
  rw [nums_intItems] at hn
  subst hn
  rw [e] at hl
  have hsz : 0 < xs.size := by simpa using hne
  refine PySem.max_intList hh hl hsz fun v h' tk hv hk => ?_
  obtain ⟨t, rfl⟩ := intItems_at hv
  obtain ⟨h1, h2⟩ := argBest_gt (numAt xs) (xs.size - 1)
  refine h h' tk _ t hk ?_ fun a ha => ?_
  · rw [numAt_eq]; exact PySem.getD_mem (by rw [List.length_map, Array.length_toList]; omega)
  · obtain ⟨j, hj, rfl⟩ := mem_getD ha
    rw [List.length_map, Array.length_toList] at hj
    rw [← numAt_eq]; exact h2 j (by omega)
end
section
variable {X : Cx}
def rMax (K : PySem.W.Frag) : List V → Hp → VK → Prop := fun vs H Q => ∃ (a : Addr) (ns : List Int), vs = [V.ref a] ∧ SqL K H a (ns.map V.int) ∧ 0 < ns.length ∧ ∀ m, m ∈ ns → (∀ y, y ∈ ns → y ≤ m) → Q (.int m) H
theorem cr_max (hc : X.calm = true) : CallR X (.builtin "max") (rMax X.K) := by
  intro pins s σ H vs us Q I r h
  obtain ⟨a, ns, rfl, hs, hne, q⟩ := h
  obtain ⟨its, rv, hl, _⟩ := I.list hs
  rw [Vals.ref1 r]
  exact max_raw (I.ok.hd hc) hl.isList rv.ints hne fun h' tk m t' hk h1 h2 => ⟨.int _, H, I.kept hk, ⟨_, rfl⟩, q m h1 h2⟩
end
section
variable {X : Cx}
def rIndex (K : PySem.W.Frag) : V → List V → Hp → VK → Prop := fun x xs H Q => ∃ (a : Addr) (ys : List V) (y : V) (j : Nat) (z : V), x = V.ref a ∧ xs = [y] ∧ SqL K H a ys ∧ flatV y = true ∧ ys.all flatV = true ∧ ys[j]? = some z ∧ eqV z y = true ∧
  (∀ (m : Nat) (z' : V), m < j → ys[m]? = some z' → eqV z' y = false) ∧ Q (.int (j : Nat)) H
theorem flat_at {ys : List V} (f : ys.all flatV = true) {j : Nat} {z : V} (h : ys[j]? = some z) : flatV z = true := List.all_eq_true.mp f z (List.mem_of_getElem? h)
theorem mt_index : MtR X "list.index" (rIndex X.K) := by
  intro pins s σ H x xs v us Q I rx rxs h
  obtain ⟨a, ys, y, j, z, rfl, rfl, hs, fy, fys, hz, hzj, hno, q⟩ := h
  cases rx
  cases rxs with
  | cons ry rt =>
    rename_i uy ut
    cases rt
    obtain ⟨its, rv, ⟨⟨cls, dd, data, sl⟩, n, ho, hc, hdn, hd⟩, hlen⟩ := I.list hs
    simp only at hc hd
    subst hc hd
    obtain ⟨u, hu, ru⟩ := rv.get hz
    obtain ⟨hjl, hje⟩ := List.getElem?_eq_some_iff.mp hu
    have hvl := rv.length
    have hj : j < its.toArray.size := by simpa using hjl
    have hsl := sizeLine_eq
    refine call_meets PySem.F.slot_list_index ⟨_, ho, rfl⟩ PySem.F.entry_list_index (PySem.F.args_list_index_2 _ _)
      (SeqAt.list_indexAt a its.toArray n dd sl uy (eqU y) j hj (by omega) ?_ ?_) ⟨ho, fun u' hu' => mem_eqAt ry fy rv fys u' (by simpa using hu'), ?_⟩
    · have e1 : its.toArray[j] = u := by simpa using hje
      rw [e1, eqU_of ru (flat_at fys hz)]
      exact hzj
    · intro m hm hmj
      have hml : m < its.length := by simpa using hm
      have hmy : m < ys.length := by omega
      have hy' : ys[m]? = some ys[m] := List.getElem?_eq_getElem hmy
      obtain ⟨u2, hu2, ru2⟩ := rv.get hy'
      obtain ⟨_, hme⟩ := List.getElem?_eq_some_iff.mp hu2
      have e1 : its.toArray[m] = u2 := by simpa using hme
      rw [e1, eqU_of ru2 (flat_at fys hy')]
      exact hno m _ hmj hy'
    · exact ⟨.int (j : Nat), H, I.tok _, ⟨_, rfl⟩, q⟩
end
section
variable {X : Cx}
end
theorem iter_any {prog : Program} {w : World} {A : Around} {E : Value → Shared → Prop} {s : Shared} {l : Addr} {items : Array Value} {Q : Value → Shared → Prop} (hl : s.heap.IsList l items)
    (h : ∀ s₂ : Shared, s₂ = { s with heap := s.heap.push { cls := .type "list_iterator", data := .fields #[.ref l, .int 0 0] } } →
      (s₂.heap.IsListIter s.heap.objs.size l 0 ∧ s₂.heap.IsList l items) → l ≠ s.heap.objs.size → Q (.ref s.heap.objs.size) s₂) : wpAny (model prog w) A (pyIter (.ref l)) Q E s := by
  have hlt : l < s.heap.objs.size := by obtain ⟨_, e, _⟩ := hl; exact Heap.lt_size e
  exact wpAny_pyIter_list hl (h _ rfl ⟨⟨_, Heap.get?_push_size _ rfl, rfl, rfl⟩, hl.push _⟩ (Nat.ne_of_lt hlt))
theorem truth_bools {prog : Program} {w : World} {A : Around} {bs : List Bool} {its : List Value} (e : its = bs.map Value.bool) :
    TruthOf prog w A (fun i v => its.toArray[i]? = some v) (fun i => bs.getD i false) := fun i v s Q E hv hq => by
  have hv' : its[i]? = some v := by simpa using hv
  rw [e, List.getElem?_map] at hv'
  obtain ⟨b, hb, rfl⟩ := Option.map_eq_some_iff.mp hv'
  have hg : bs.getD i false = b := by rw [List.getD_eq_getElem?_getD, hb] <;> rfl
  have hq' : Q (bs.getD i false) s := hq
  rw [hg] at hq'
  exact wpAny_truthy_bool hq'
theorem all_range : ∀ bs : List Bool, (List.range bs.length).all (fun i => bs.getD i false) = bs.all id
  | [] => rfl
  | b :: bs => by
    rw [List.length_cons, List.range_succ_eq_map, List.all_cons, List.all_map, List.all_cons, ← all_range bs]
    all_goals rfl
section
variable {X : Cx}
def rAll (K : PySem.W.Frag) : List V → Hp → VK → Prop := fun vs H Q => ∃ (a : Addr) (bs : List Bool), vs = [V.ref a] ∧ SqL K H a (bs.map V.bl) ∧ Q (.bl (bs.all id)) H
theorem cr_all (hc : X.calm = true) : CallR X (.builtin "all") (rAll X.K) := by
  intro pins s σ H vs us Q I r h
  obtain ⟨a, bs, rfl, hs, q⟩ := h
  obtain ⟨its, rv, hl, _⟩ := I.list hs
  rw [Vals.ref1 r]
  have hb := rv.bls
  refine call_all_walk (iter_any hl.isList fun s₂ e2 st hne => ?_)
  subst e2
  refine ⟨_, _, _, _, _, _, _, rfl, Walks.list (A := X.A.in1) (I.ok.hd hc) _ a hne its.toArray, st, truth_bools hb, fun h' tk hk => ?_⟩
  refine ⟨.bl _, H, I.kept fun b o eo => hk b o (fun hmem => ?_) (Heap.get?_push_of_some _ eo), ?_, q⟩
  · rcases List.mem_cons.mp hmem with e1 | hmem
    · exact absurd (e1 ▸ Heap.lt_size eo) (Nat.lt_irrefl _)
    · cases hmem
  · show Value.bool _ = Value.bool _
    rw [← all_range, hb, List.size_toArray, List.length_map]
end
mutual
inductive Dp (K : PySem.W.Frag) (H : Hp) : V → PyData → Prop
  | non : Dp K H .non .none
  | bl (b : Bool) : Dp K H (.bl b) (.bool b)
  | int (i : Int) : Dp K H (.int i) (.int i)
  | str (x : Str) : Dp K H (.str x) (.str x)
  | lst {a : Addr} {xs : List V} {ds : List PyData} : SqL K H a xs → DpAll K H xs ds → Dp K H (.ref a) (.list ds)
  | tup {a : Addr} {xs : List V} {ds : List PyData} : SqT K H a xs → DpAll K H xs ds → Dp K H (.ref a) (.tuple ds)
inductive DpAll (K : PySem.W.Frag) (H : Hp) : List V → List PyData → Prop
  | nil : DpAll K H [] []
  | cons {v : V} {vs : List V} {d : PyData} {ds : List PyData} : Dp K H v d → DpAll K H vs ds → DpAll K H (v :: vs) (d :: ds)
end
section
variable {X : Cx} {pins : List (Addr × Obj)} {σ : St} {H : Hp} {s : Shared}
mutual
theorem Dp.reads (I : Inv X pins σ H s) : ∀ (d : PyData) (v : V) (u : Value), Dp X.K H v d → RelV v u → ∃ as, Reads s.heap u d as
  | .none, _, _, h, r => by
    cases h
    cases r
    exact ⟨_, Reads.none⟩
  | .bool b, _, _, h, r => by
    cases h
    cases r
    exact ⟨_, Reads.bool b⟩
  | .int i, _, _, h, r => by
    cases h
    obtain ⟨t, rfl⟩ := r
    exact ⟨_, Reads.int i t⟩
  | .str x, _, _, h, r => by
    cases h
    obtain ⟨t, rfl⟩ := r
    exact ⟨_, Reads.str x t⟩
  | .list ds, _, _, h, r => by
    cases h with
    | lst hs ha =>
      cases r
      obtain ⟨its, rv, ⟨o, n, ho, hc, _, hd⟩, _⟩ := I.list hs
      obtain ⟨as, hr⟩ := Dp.readsAll I ds _ its ha rv
      exact ⟨_, Reads.list ho hc hd hr⟩
  | .tuple ds, _, _, h, r => by
    cases h with
    | tup hs ha =>
      cases r
      obtain ⟨its, rv, ⟨o, ho, hc, n, hd⟩, _⟩ := I.tuple hs
      obtain ⟨as, hr⟩ := Dp.readsAll I ds _ its ha rv
      exact ⟨_, Reads.tuple ho hc hd hr⟩
  | .dict _, _, _, h, _ => by cases h
theorem Dp.readsAll (I : Inv X pins σ H s) : ∀ (ds : List PyData) (vs : List V) (us : List Value), DpAll X.K H vs ds → Vals vs us → ∃ as, ReadsAll s.heap us ds as
  | [], _, _, h, r => by
    cases h
    cases r
    exact ⟨_, ReadsAll.nil⟩
  | d :: ds, _, _, h, r => by
    cases h with
    | cons h1 h2 =>
      cases r with
      | cons r1 r2 =>
        obtain ⟨as, q1⟩ := Dp.reads I d _ _ h1 r1
        obtain ⟨bs, q2⟩ := Dp.readsAll I ds _ _ h2 r2
        exact ⟨_, ReadsAll.cons q1 q2⟩
end
end
section
variable {X : Cx}
end
end L2
namespace L2
open PySem PySem.Spec PyProof.Rows
abbrev CellAt (h : Heap) (c : Addr) (v : Option Value) : Prop := h.IsCell c v
def relS (scope sc : Scope) : Scope :=
  { scope with names := scope.names.map fun (n, k) => if (k == .free && sc.kind == .function && sc.names.lookup n == some .cell) then (n, .cell) else (n, k) }
def cloFrom (cells : List (Str × Addr)) : List (Str × NameKind) → List (Str × Addr) → List (Str × Addr)
  | [], acc => acc
  | (n, k) :: r, acc => if k == .free then cloFrom cells r ((n, (cells.lookup n).getD 0) :: acc) else cloFrom cells r acc
theorem closure_loop (env : Env) (f : Str × NameKind → List (Str × Addr) → Sem (ForInStep (List (Str × Addr))))
    (hf : ∀ n k c, f (n, k) c = if k == .free then (do let a ← cellOf env n; pure (.yield ((n, a) :: c))) else pure (.yield c)) :
    ∀ (names : List (Str × NameKind)) (acc : List (Str × Addr)), (∀ y ∈ names, y.2 = .free → ∃ c, env.cells.lookup y.1 = some c) → forIn names acc f = pure (cloFrom env.cells names acc)
  | [], acc, _ => by rw [List.forIn_nil]; rfl
  | (n, k) :: r, acc, h => by
    rw [List.forIn_cons, hf]
    have ih := fun acc => closure_loop env f hf r acc fun y hy => h y (List.mem_cons_of_mem _ hy)
    unfold cloFrom
    by_cases hk : (k == NameKind.free) = true
    · rw [if_pos hk, if_pos hk]
      obtain ⟨c, hc⟩ := h (n, k) List.mem_cons_self (by simpa using hk)
      have e : cellOf env n = pure c := by unfold cellOf; rw [hc]
      rw [e]
      have e2 : (env.cells.lookup n).getD 0 = c := by rw [hc]; rfl
      rw [e2]
      exact ih _
    · rw [if_neg hk, if_neg hk]
      exact ih _
theorem closure_ok {scope : Scope} {env : Env} (h : ∀ y ∈ scope.names, y.2 = .free → ∃ c, env.cells.lookup y.1 = some c) : closureFor scope env = pure (cloFrom env.cells scope.names []) := by
  simp only [closureFor]
  rw [closure_loop env _ (fun n k c => rfl) scope.names [] h]
  rfl
theorem mem_lookup {α : Type} : ∀ {l : List (Str × α)} {n : Str} {c : α}, (n, c) ∈ l → ∃ c', l.lookup n = some c'
  | (k, v) :: r, n, c, h => by
    rw [List.lookup_cons]
    cases hb : n == k with
    | true => exact ⟨_, rfl⟩
    | false =>
      rcases List.mem_cons.mp h with e | h
      · cases e; simp at hb
      · exact mem_lookup h
theorem cloFrom_mem {cells : List (Str × Addr)} : ∀ {names : List (Str × NameKind)} {acc : List (Str × Addr)} {n : Str} {c : Addr}, (n, c) ∈ cloFrom cells names acc → (n, c) ∈ acc ∨ ((n, .free) ∈ names ∧ c = (cells.lookup n).getD 0)
  | [], _, _, _, h => .inl h
  | (m, k) :: r, acc, n, c, h => by
    unfold cloFrom at h
    split at h
    · rename_i hk
      have hk : k = .free := by simpa using hk
      rcases cloFrom_mem h with h | ⟨h1, h2⟩
      · rcases List.mem_cons.mp h with e | h
        · cases e; exact .inr ⟨hk ▸ List.mem_cons_self, rfl⟩
        · exact .inl h
      · exact .inr ⟨List.mem_cons_of_mem _ h1, h2⟩
    · rcases cloFrom_mem h with h | ⟨h1, h2⟩
      · exact .inl h
      · exact .inr ⟨List.mem_cons_of_mem _ h1, h2⟩
theorem cloFrom_acc {cells : List (Str × Addr)} : ∀ {names : List (Str × NameKind)} {acc : List (Str × Addr)} {p : Str × Addr}, p ∈ acc → p ∈ cloFrom cells names acc
  | [], _, _, h => h
  | (m, k) :: r, acc, p, h => by
    unfold cloFrom
    split
    · exact cloFrom_acc (List.mem_cons_of_mem _ h)
    · exact cloFrom_acc h
theorem cloFrom_has {cells : List (Str × Addr)} : ∀ {names : List (Str × NameKind)} {acc : List (Str × Addr)} {n : Str}, (n, .free) ∈ names → (n, (cells.lookup n).getD 0) ∈ cloFrom cells names acc
  | (m, k) :: r, acc, n, h => by
    unfold cloFrom
    rcases List.mem_cons.mp h with e | h
    · cases e
      exact cloFrom_acc List.mem_cons_self
    · split
      · exact cloFrom_has h
      · exact cloFrom_has h
theorem cells_mem : ∀ {names : List (Str × NameKind)} {h : Heap} {acc : List (Str × Addr)} {x : Str} {c : Addr}, (x, c) ∈ cellsFrom h.objs.size names acc →
    (x, c) ∈ acc ∨ ((x, .cell) ∈ names ∧ h.objs.size ≤ c ∧ CellAt (pushCells h names) c none)
  | [], _, _, _, _, h => .inl h
  | (n, k) :: r, h, acc, x, c, hm => by
    unfold cellsFrom at hm
    unfold pushCells
    split at hm
    · rename_i hk
      rw [if_pos hk]
      have hk : k = .cell := by simpa using hk
      rw [← Heap.size_push h { cls := .type "cell", data := .cell none }] at hm
      rcases cells_mem hm with hm | ⟨h1, h2, h3⟩
      · rcases List.mem_cons.mp hm with e | hm
        · cases e
          exact .inr ⟨hk ▸ List.mem_cons_self, Nat.le_refl _, _, pushCells_keeps r _ _ _ (Heap.get?_push_size _ rfl), rfl⟩
        · exact .inl hm
      · rw [Heap.size_push] at h2
        exact .inr ⟨List.mem_cons_of_mem _ h1, Nat.le_of_succ_le h2, h3⟩
    · rename_i hk
      rw [if_neg hk]
      rcases cells_mem hm with hm | ⟨h1, h2, h3⟩
      · exact .inl hm
      · exact .inr ⟨List.mem_cons_of_mem _ h1, h2, h3⟩
theorem cells_acc : ∀ {names : List (Str × NameKind)} {n : Nat} {acc : List (Str × Addr)} {p : Str × Addr}, p ∈ acc → p ∈ cellsFrom n names acc
  | [], _, _, _, h => h
  | (m, k) :: r, n, acc, p, h => by
    unfold cellsFrom
    split
    · exact cells_acc (List.mem_cons_of_mem _ h)
    · exact cells_acc h
theorem cells_has : ∀ {names : List (Str × NameKind)} {n : Nat} {acc : List (Str × Addr)} {x : Str}, (x, .cell) ∈ names → ∃ c, (x, c) ∈ cellsFrom n names acc
  | (m, k) :: r, n, acc, x, h => by
    unfold cellsFrom
    rcases List.mem_cons.mp h with e | h
    · cases e
      exact ⟨n, cells_acc List.mem_cons_self⟩
    · split
      · exact cells_has h
      · exact cells_has h
theorem cells_inj : ∀ {names : List (Str × NameKind)} {h : Heap} {acc : List (Str × Addr)} {x y : Str} {c : Addr}, (∀ p ∈ acc, p.2 < h.objs.size) → (∀ x y c, (x, c) ∈ acc → (y, c) ∈ acc → x = y) →
    (x, c) ∈ cellsFrom h.objs.size names acc → (y, c) ∈ cellsFrom h.objs.size names acc → x = y
  | [], _, _, _, _, _, _, hi, h1, h2 => hi _ _ _ h1 h2
  | (n, k) :: r, h, acc, x, y, c, hl, hi, h1, h2 => by
    unfold cellsFrom at h1 h2
    split at h1
    · rename_i hk
      rw [if_pos hk] at h2
      rw [← Heap.size_push h { cls := .type "cell", data := .cell none }] at h1 h2
      refine cells_inj (h := h.push _) (fun p hp => ?_) (fun x y c a b => ?_) h1 h2
      · rw [Heap.size_push]
        rcases List.mem_cons.mp hp with rfl | hp
        · exact Nat.lt_succ_self _
        · exact Nat.lt_succ_of_lt (hl p hp)
      · rcases List.mem_cons.mp a with e | a <;> rcases List.mem_cons.mp b with e' | b
        · cases e; cases e'; rfl
        · cases e; exact absurd (hl _ b) (Nat.lt_irrefl _)
        · cases e'; exact absurd (hl _ a) (Nat.lt_irrefl _)
        · exact hi _ _ _ a b
    · rename_i hk
      rw [if_neg hk] at h2
      exact cells_inj hl hi h1 h2
theorem newEnv_comp {M : Model} {A : Around} {E : Value → Shared → Prop} {s : Shared} {scope : Scope} {globals : Addr} {closure : List (Str × Addr)} {qual : Str} {func : Option Addr} {code : Value} {around : Env} {builtins : Addr} {Q : Env → Shared → Prop}
    (h : Q (newEnv scope s.heap.objs.size globals (cellsFrom (s.heap.objs.size + 1) scope.names closure) qual func code (some around) builtins)
      { s with heap := pushCells (s.heap.push { cls := .type "dict", data := .dict #[] }) scope.names }) :
    wpAny M A (newFunctionEnv scope globals closure [] qual func code (some around) builtins) Q E s := by
  simp only [newFunctionEnv, Option.isSome_some, if_true]
  refine wpAny_bind (wpAny_alloc ?_)
  refine wpAny_bind (wpAny_layCells _ (fun n k c => rfl) scope.names closure _ _ ?_)
  rw [show ({ s with heap := s.heap.push { cls := .type "dict", data := .dict #[] } } : Shared).heap.objs.size = s.heap.objs.size + 1 from Heap.size_push ..]
  rw [List.forIn_nil]
  exact wpAny_bind (wpAny_pure (wpAny_pure h))
theorem lookup_relS {sc : Scope} : ∀ {names : List (Str × NameKind)} {x : Str} {k : NameKind},
    (names.map fun (n, k) => if (k == NameKind.free && sc.kind == .function && sc.names.lookup n == some .cell) then (n, NameKind.cell) else (n, k)).lookup x = some k →
    ∃ k', names.lookup x = some k' ∧ (k = k' ∨ (k' = .free ∧ k = .cell))
  | [], _, _, h => by simp at h
  | (n, k₀) :: r, x, k, h => by
    have ih := @lookup_relS sc r x k
    have h' : List.lookup x ((if (k₀ == NameKind.free && sc.kind == .function && sc.names.lookup n == some .cell) = true then (n, NameKind.cell) else (n, k₀)) :: (r.map _)) = some k := h
    cases hx : x == n with
    | true =>
      simp only [List.lookup_cons, hx]
      by_cases hc : (k₀ == NameKind.free && sc.kind == .function && sc.names.lookup n == some .cell) = true
      · rw [if_pos hc] at h'
        simp only [List.lookup_cons, hx] at h'
        cases h'
        simp only [Bool.and_eq_true, beq_iff_eq] at hc
        exact ⟨k₀, rfl, .inr ⟨hc.1.1, rfl⟩⟩
      · rw [if_neg hc] at h'
        simp only [List.lookup_cons, hx] at h'
        cases h'
        exact ⟨_, rfl, .inl rfl⟩
    | false =>
      simp only [List.lookup_cons, hx]
      by_cases hc : (k₀ == NameKind.free && sc.kind == .function && sc.names.lookup n == some .cell) = true
      · rw [if_pos hc] at h'
        simp only [List.lookup_cons, hx] at h'
        exact ih h'
      · rw [if_neg hc] at h'
        simp only [List.lookup_cons, hx] at h'
        exact ih h'
structure BlkOk (N : List Str) (sc scope : Scope) (own : List (Str × Nat)) : Prop where
  kind : scope.kind = .function
  uniq : ∀ y ∈ scope.names, scope.names.lookup y.1 = some y.2
  ix : ∀ p ∈ own, N[p.2]? = some p.1
  free : ∀ y ∈ scope.names, y.2 = .free → sc.names.lookup y.1 = some .cell ∨ sc.names.lookup y.1 = some .free
  own : ∀ y ∈ scope.names, y.2 = .local ∨ y.2 = .cell → y.1 ∈ own.map (·.1) ∨ y.1 ∉ N
def wipe (σ : St) : List Nat → St
  | [] => σ
  | v :: vs => (wipe σ vs).set v none
theorem wipe_length (σ : St) : ∀ vs : List Nat, (wipe σ vs).length = σ.length
  | [] => rfl
  | v :: vs => by unfold wipe; rw [List.length_set, wipe_length σ vs]
theorem wipe_some {σ : St} {i : Nat} {x : V} : ∀ {vs : List Nat}, (wipe σ vs)[i]? = some (some x) → σ[i]? = some (some x) ∧ i ∉ vs
  | [], h => ⟨h, by simp⟩
  | v :: vs, h => by
    unfold wipe at h
    by_cases hi : v = i
    · subst hi
      by_cases hv : v < (wipe σ vs).length
      · rw [List.getElem?_set_self hv] at h; cases h
      · rw [List.getElem?_eq_none (by simpa using hv)] at h; cases h
    · rw [List.getElem?_set_ne hi] at h
      obtain ⟨h1, h2⟩ := wipe_some h
      exact ⟨h1, by simp only [List.mem_cons, not_or]; exact ⟨fun e => hi e.symm, h2⟩⟩
abbrev Cx.blk (X : Cx) (s : Shared) (H : Hp) (scope : Scope) (cenv : Env) (fp : List Addr) : Cx := { X with s_0 := s, H_0 := H, env := cenv, outer := X.stack, ex := fp, fn := fun x => scope.names.lookup x == some .cell, pn := [], xe := fun _ _ => False }
section
variable {X : Cx} {pins : List (Addr × Obj)} {σ : St} {H : Hp} {s : Shared}
theorem block_start {scope : Scope} {own : List (Str × Nat)} {fp : List Addr} (I : Inv X pins σ H s) (ok : BlkOk X.N X.env.scope scope own) (hN : X.N.Nodup) (hfp : ∀ b ∈ fp, FpOk X pins H b ∧ b < s.heap.objs.size) :
    Inv (X.blk s H scope (compEnvC scope (cellsFrom (s.heap.objs.size + 1) scope.names (cloFrom X.env.cells scope.names [])) s.heap.objs.size X.env) fp) [] (wipe σ (own.map (·.2))) H { s with heap := pushCells (s.heap.push { cls := .type "dict", data := .dict #[] }) scope.names } := by
  have hfree : ∀ y ∈ scope.names, y.2 = .free → ∃ c, X.env.cells.lookup y.1 = some c := fun y hy e => by
    rcases ok.free y hy e with k | k
    · exact I.ok.has _ (.inl k)
    · exact I.ok.has _ (.inr k)
  generalize hcenv : compEnvC scope (cellsFrom (s.heap.objs.size + 1) scope.names (cloFrom X.env.cells scope.names [])) s.heap.objs.size X.env = cenv
  have kp : ∀ b o, s.heap.get? b = some o → (pushCells (s.heap.push { cls := .type "dict", data := .dict #[] }) scope.names).get? b = some o := fun b o e => pushCells_keeps _ _ _ _ (Heap.get?_push_of_some _ e)
  have hL : cenv.locals = s.heap.objs.size := by rw [← hcenv]; rfl
  have hcl : cenv.cells = cellsFrom (s.heap.objs.size + 1) scope.names (cloFrom X.env.cells scope.names []) := by rw [← hcenv]; rfl
  have hsc : cenv.scope = relS scope X.env.scope := by rw [← hcenv]; rfl
  rw [← Heap.size_push s.heap { cls := .type "dict", data := .dict #[] }] at hcl
  have cm : ∀ {y c}, (y, c) ∈ cloFrom X.env.cells scope.names [] → X.env.cells.lookup y = some c ∧ c < s.heap.objs.size := fun {y c} hm => by
    rcases cloFrom_mem hm with hm | ⟨h1, rfl⟩
    · cases hm
    · obtain ⟨c, hc⟩ := hfree _ h1 rfl
      rw [hc]
      obtain ⟨w, z⟩ := I.cell _ _ hc
      exact ⟨rfl, z.lt⟩
  have mem : ∀ {y c}, cenv.cells.lookup y = some c → (X.env.cells.lookup y = some c ∧ c < s.heap.objs.size) ∨ (s.heap.objs.size + 1 ≤ c ∧ CellAt (pushCells (s.heap.push { cls := .type "dict", data := .dict #[] }) scope.names) c none) := fun {y c} e => by
    rw [hcl] at e
    rcases cells_mem (PySem.mem_of_lookup e) with hm | ⟨_, h2, h3⟩
    · exact .inl (cm hm)
    · rw [Heap.size_push] at h2; exact .inr ⟨h2, h3⟩
  have look : ∀ {y}, scope.names.lookup y = some .free → ∃ c, cenv.cells.lookup y = some c ∧ X.env.cells.lookup y = some c := fun {y} hl => by
    have hy : (y, NameKind.free) ∈ scope.names := PySem.mem_of_lookup hl
    obtain ⟨c', e'⟩ := mem_lookup (cells_acc (names := scope.names) (n := (s.heap.push { cls := .type "dict", data := .dict #[] }).objs.size) (cloFrom_has (cells := X.env.cells) (acc := []) hy))
    rw [← hcl] at e'
    refine ⟨c', e', ?_⟩
    rw [hcl] at e'
    rcases cells_mem (PySem.mem_of_lookup e') with hm | ⟨h1, _, _⟩
    · exact (cm hm).1
    · have := ok.uniq _ h1
      rw [hl] at this; cases this
  have okB : (X.blk s H scope cenv fp).Ok := by
    refine ⟨I.ok.mod, by show cenv.scope.kind = _; rw [hsc]; exact ok.kind, by show cenv.globals = _; rw [← hcenv]; exact I.ok.glob, by show cenv.builtins = _; rw [← hcenv]; exact I.ok.blt, by show s.heap.objs.size ≤ cenv.locals; rw [hL]; exact Nat.le_refl _,
      fun y z c e1 e2 => ?_, fun y hy => ?_, fun y c z e => ?_, I.ok.hd, I.ok.frames, .inl rfl, fun b hb => ⟨?_, fun y c e z => ?_⟩, I.bs, Nat.le_trans I.ok.bsz I.sz, fun b o e hb => ?_, fun b hb z => ?_, I.stack, I.stkFree⟩
    · have e1 : cenv.cells.lookup y = some c := e1
      have e2 : cenv.cells.lookup z = some c := e2
      rw [hcl] at e1 e2
      refine cells_inj (fun p hp => ?_) (fun y z c a b => I.ok.inj y z c (cm a).1 (cm b).1) (PySem.mem_of_lookup e1) (PySem.mem_of_lookup e2)
      rw [Heap.size_push]
      exact Nat.lt_succ_of_lt (cm (y := p.1) (c := p.2) hp).2
    · show ∃ c, cenv.cells.lookup y = some c
      have key : ∀ k, cenv.kindOf y = some k → (k = .cell ∨ k = .free) → ∃ c, cenv.cells.lookup y = some c := fun k hk hk' => by
        unfold Env.kindOf at hk
        rw [hsc] at hk
        obtain ⟨k', e, r⟩ := lookup_relS hk
        have : k' = .cell ∨ k' = .free := by
          rcases r with rfl | ⟨rfl, _⟩
          · exact hk'
          · exact .inr rfl
        rcases this with rfl | rfl
        · obtain ⟨c, hm⟩ := cells_has (n := (s.heap.push { cls := .type "dict", data := .dict #[] }).objs.size) (acc := cloFrom X.env.cells scope.names []) (PySem.mem_of_lookup e)
          obtain ⟨c', e'⟩ := mem_lookup hm
          exact ⟨c', by rw [hcl]; exact e'⟩
        · obtain ⟨c, h1, _⟩ := look e
          exact ⟨c, h1⟩
      rcases hy with hy | hy
      · exact key _ hy (.inl rfl)
      · exact key _ hy (.inr rfl)
    · have z : (scope.names.lookup y == some NameKind.cell) = true := z
      have z : scope.names.lookup y = some .cell := by simpa using z
      have e : cenv.cells.lookup y = some c := e
      rw [hcl] at e
      rcases cells_mem (PySem.mem_of_lookup e) with hm | ⟨_, h2, _⟩
      · rcases cloFrom_mem hm with hm | ⟨h1, _⟩
        · cases hm
        · have q := ok.uniq _ h1
          rw [z] at q; cases q
      · rw [Heap.size_push] at h2
        exact Nat.le_of_succ_le h2
    · show b ≠ cenv.locals
      rw [hL]; exact Nat.ne_of_lt (hfp b hb).2
    · have e : cenv.cells.lookup y = some c := e
      rcases mem e with ⟨h1, _⟩ | ⟨h1, _⟩
      · exact (hfp b hb).1.2.2.2.2.1 y c h1 z
      · have h2 : s.heap.objs.size + 1 ≤ b := by rw [← z]; exact h1
        exact absurd (Nat.lt_of_lt_of_le (hfp b hb).2 (Nat.le_of_succ_le h2)) (Nat.lt_irrefl _)
    · rcases (hfp b hb).1.2.2.2.1 with z | z
      · exact I.ok.noex b o e z
      · exact absurd (Nat.lt_of_lt_of_le (Heap.lt_size e) (Nat.le_trans I.ok.bsz z)) (Nat.lt_irrefl _)
    · rcases List.mem_cons.mp (I.stkSub b z) with z | z
      · exact (hfp b hb).1.2.1 z
      · exact (hfp b hb).1.2.2.1 z
  refine ⟨okB, rfl, I.bare, Un.kept kp, ⟨fun _ => none, ?_, fun i y av e1 e2 e3 => ?_⟩, fun y c e => ?_, ?_, fun y c e => ?_, fun p hp => ?_, I.hok.kept kp, by rw [wipe_length]; exact I.len⟩
  · show Heap.Ns _ cenv.locals _
    rw [hL]
    exact Heap.Ns.keeps (Heap.Ns.new ..) fun b o e => pushCells_keeps _ _ _ _ e
  · obtain ⟨e2, hne⟩ := wipe_some e2
    have hfr : scope.names.lookup y = some .free ∧ (cenv.kindOf y = some .cell ∨ cenv.kindOf y = some .free) := by
      have key : ∀ k, cenv.scope.names.lookup y = some k → k = .local ∨ k = .cell ∨ k = .free → scope.names.lookup y = some .free ∧ (cenv.kindOf y = some .cell ∨ cenv.kindOf y = some .free) := fun k hk hk' => by
        have hk0 := hk
        rw [hsc] at hk
        obtain ⟨k', e, r⟩ := lookup_relS hk
        have no : ¬ (k' = .local ∨ k' = .cell) := fun hh => by
          rcases ok.own _ (PySem.mem_of_lookup e) hh with e' | e'
          · obtain ⟨p, hp, hpy⟩ := List.mem_map.mp e'
            have e3 := ok.ix p hp
            have : p.1 = y := hpy
            rw [this] at e3
            exact hne (List.mem_map.mpr ⟨p, hp, nodup_ix hN e3 e1⟩)
          · exact e' (List.mem_of_getElem? e1)
        rcases r with rfl | ⟨rfl, rfl⟩
        · rcases hk' with rfl | rfl | rfl
          · exact absurd (.inl rfl) no
          · exact absurd (.inr rfl) no
          · exact ⟨e, .inr hk0⟩
        · exact ⟨e, .inl hk0⟩
      have e3 : Vis cenv.scope y := e3
      rcases e3 with e3 | e3 | e3
      · exact key _ e3 (.inl rfl)
      · exact key _ e3 (.inr (.inl rfl))
      · exact key _ e3 (.inr (.inr rfl))
    obtain ⟨m, hn, hl⟩ := I.loc
    have hvis : Vis X.env.scope y := (ok.free _ (PySem.mem_of_lookup hfr.1) rfl).elim (fun k => .inr (.inl k)) (fun k => .inr (.inr k))
    obtain ⟨w, r, q⟩ := hl i y av e1 e2 hvis
    refine ⟨w, r, .inr ⟨hfr.2, ?_⟩⟩
    obtain ⟨c, h1, h2⟩ := look hfr.1
    rcases q with ⟨k, _⟩ | ⟨_, c', e', z⟩
    · have k : X.env.scope.names.lookup y = some .local := k
      rcases ok.free _ (PySem.mem_of_lookup hfr.1) rfl with k' | k' <;> rw [show X.env.scope.names.lookup y = _ from k'] at k <;> cases k
    · rw [h2] at e'; cases e'
      exact ⟨c, h1, z.keeps kp⟩
  · have e : cenv.cells.lookup y = some c := e
    rcases mem e with ⟨h1, _⟩ | ⟨_, z⟩
    · obtain ⟨w, z⟩ := I.cell y c h1
      exact ⟨w, z.keeps kp⟩
    · exact ⟨_, z⟩
  · show H cenv.locals = none
    rw [hL]; exact I.hok.fresh (Nat.le_refl _)
  · have e : cenv.cells.lookup y = some c := e
    rcases mem e with ⟨h1, _⟩ | ⟨h1, _⟩
    · exact I.freeC y c h1
    · exact I.hok.fresh (Nat.le_of_succ_le h1)
  · exact absurd (show p ∈ ([] : List (Addr × Obj)) ++ [] from hp) (by simp)
theorem app_ok {E : Value → Shared → Prop} {D : Addr} {xs : List V} {y : V} {v : Value} {Q : Value → Shared → Prop} (I : Inv X pins σ H s) (hD : H D = some (.lst xs)) (hz : xs.length < sizeLine) (r : RelV y v)
    (h : ∀ s', Inv X pins σ (upd H D (.lst (xs ++ [y]))) s' → Q .none s') : wpAny (model X.prog X.w) X.A (call (.builtin "list.append") [.ref D, v]) Q E s := by
  obtain ⟨hz', its, n, ri, e⟩ := I.hok D _ hD
  have hl := ri.length
  refine append_at (hsz := by rw [List.size_toArray]; omega) e fun h' sb ho' => ?_
  refine h { s with heap := h' } (I.write (t' := s.toks) (by rw [hD]; trivial) (.inl rfl) (fun b u hb q => (sb.2 b hb).trans q) ⟨_, ho'⟩ ⟨by rw [List.length_append]; exact hz, its ++ [v], n + 1, ri.append (.cons r .nil), ?_⟩)
  rw [ho']
  simp
def PTs (X : Cx) (ifs : List Expr) (t : TT) : Prop :=
  ∀ (pins : List (Addr × Obj)) (s : Shared) (σ : St) (H : Hp) (Q : Bool → Hp → Prop), Inv X pins σ H s → t σ H Q →
    wpAny (model X.prog X.w) X.A (forIn ifs true fun c r => if r = true then do let ok ← isTrue c X.env (eval c X.env); pure (ForInStep.yield ok) else pure (ForInStep.yield r)) (TP X pins σ Q) X.xe s
def tYes : TT := fun _ H Q => Q true H
theorem pts_nil : PTs X [] tYes := fun _ _ _ H _ I h => wpAny_tests_nil ⟨H, I, h⟩
theorem pts_one {c : Expr} {t : TT} (h : PT X c t) : PTs X [c] t := fun pins s σ H Q I hw => wpAny_tests_one (h pins s σ H Q I hw)
end
theorem thnF {α : Type} {t : Sem α} {Q Q' : α → Shared → Prop} {M : Model} {A : Around} {E : Value → Shared → Prop} {s : Shared} (h : wpAny M A t Q (fun _ _ => False) s) (hQ : ∀ a s, Q a s → Q' a s) : wpAny M A t Q' E s := wpAny_mono h hQ fun _ _ z => False.elim z
theorem compLoop_any {prog : Program} {w : World} {A : Around} {R : Result → Shared → Prop} {s : Shared} {elt target iter : Expr} {ifs : List Expr} {scope : Scope} {pos : Pos} {it acc : Value} {env : Env} (I : Nat → Shared → Prop)
    (turn : ∀ n s, I n s → wpAny (model prog w) A (pyNext it) (fun r s₁ => match r with
      | none => R (.ok .next) s₁
      | some v => wpAny (model prog w) A (letOwnedTupleGo target it v) (fun _ s₁' => wpAny (model prog w) A (assign target env v) (fun _ s₂ =>
          wpAny (model prog w) A (forIn ifs true fun c r => if r = true then do let ok ← isTrue c env (eval c env); pure (ForInStep.yield ok) else pure (ForInStep.yield r)) (fun ok s₃ =>
            if ok = true then wpAny (model prog w) A (eval elt env) (fun x s₄ =>
              wpAny (model prog w) A (call (.builtin "list.append") [acc, x]) (fun _ s₅ => ∃ m, m < n ∧ I m s₅) (notedBy (model prog w) A env fun e s' => R (.error e) s') s₄) (notedBy (model prog w) A env fun e s' => R (.error e) s') s₃
            else ∃ m, m < n ∧ I m s₃) (notedBy (model prog w) A env fun e s' => R (.error e) s') s₂) (notedBy (model prog w) A env fun e s' => R (.error e) s') s₁') (notedBy (model prog w) A env fun e s' => R (.error e) s') s₁) (notedBy (model prog w) A env fun e s' => R (.error e) s') s)
    (n : Nat) (h : I n s) :
    codeAny (model prog w) A (.compLoop (.ListComp elt [⟨target, iter, ifs, 0⟩] scope pos) 0 it acc env) R s := by
  refine codeAny_loop rfl I (fun n s hI => ?_) n h
  show wpAny _ A ((compTurn (.ListComp elt [⟨target, iter, ifs, 0⟩] scope pos) 0 it acc env).onRaise (fun x => do noteFrame x env; theTreesLotGoes x)) _ _ s
  refine wpAny_noted ?_
  rw [compTurn_list]
  refine wpAny_bind (wpAny_standAt (wpAny_bind (wpAny_mono (turn n s hI) (fun r s₁ h₁ => ?_) fun _ _ h' => h')))
  cases r with
  | none => exact wpAny_pure h₁
  | some v =>
    refine wpAny_bind (wpAny_mono h₁ (fun _ s₁' h₁' => ?_) fun _ _ h' => h')
    refine wpAny_bind (wpAny_mono h₁' (fun _ s₂ h₂ => wpAny_bind (wpAny_mono h₂ (fun ok s₃ h₃ => ?_) fun _ _ h' => h')) fun _ _ h' => h')
    cases ok with
    | false => exact wpAny_pure ⟨rfl, h₃⟩
    | true =>
      exact wpAny_bind (wpAny_bind (wpAny_mono h₃ (fun x s₄ h₄ => wpAny_bind (wpAny_mono h₄ (fun _ s₅ h₅ => wpAny_pure (wpAny_pure ⟨rfl, h₅⟩)) fun _ _ h' => h')) fun _ _ h' => h'))
section
variable {X : Cx}
def tLc (wi : TI) (g : TG) (tt : TT) (te : TE) (vs : List Nat) : TE := fun σ H Q => wi σ H fun J H1 => ∀ D, H1 D = none → ∃ W : Nat → Nat → Hp → Prop, (∃ m, W 0 m (upd H1 D (.lst []))) ∧ ∀ i m H, W i m H →
  (J.stop i H ∧ Q (.ref D) H) ∨ (J.go i H ∧ ∃ Nx : Hp → Prop, (∀ H', Nx H' → ∃ m', m' < m ∧ W (i + 1) m' H') ∧ ∀ x H', J.yld i H x H' → g x (wipe σ vs) H' fun σ2 H2 => wipe σ2 vs = wipe σ vs ∧ tt σ2 H2 fun b H3 =>
    if b = true then te σ2 H3 fun y H4 => ∃ acc, H4 D = some (.lst acc) ∧ acc.length < sizeLine ∧ Nx (upd H4 D (.lst (acc ++ [y]))) else Nx H3)
theorem lc_core {pins : List (Addr × Obj)} {s : Shared} {σ : St} {H : Hp} {Q : VK} {elt tg iter : Expr} {ifs : List Expr} {scope : Scope} {own : List (Str × Nat)} {pos pos' : Pos} {wi : TI} {g : TG} {tt : TT} {te : TE} {use : Option (Value → Sem Unit)} {Qf : Value → Shared → Prop}
    (hc : X.calm = true) (hN : X.N.Nodup) (I : Inv X pins σ H s) (hi : PI X tg iter wi) (ok : BlkOk X.N X.env.scope scope own)
    (hg : ∀ (s : Shared) (H : Hp) (C : Addr) (cl : List (Str × Addr)) (fp : List Addr), PG (X.blk s H scope (compEnvC scope cl C X.env) fp) tg g) (ht : ∀ (s : Shared) (H : Hp) (C : Addr) (cl : List (Str × Addr)) (fp : List Addr), PTs (X.blk s H scope (compEnvC scope cl C X.env) fp) ifs tt)
    (he : ∀ (s : Shared) (H : Hp) (C : Addr) (cl : List (Str × Addr)) (fp : List Addr), PE (X.blk s H scope (compEnvC scope cl C X.env) fp) elt te) (hs : ∀ x, foldedSetIterable iter X.env x = pure x)
    (h : tLc wi g tt te (own.map (·.2)) σ H Q)
    (hRR : ∀ D C s' m H', Inv X pins σ H' s' → Q (.ref D) H' → s'.heap.Ns C m → FpOk X pins H' C → compPost (model X.prog X.w) X.A X.xe use Qf (.ref D) C (.ok .next) s') :
    wpAny (model X.prog X.w) X.A (comprehension (.ListComp elt [⟨tg, iter, ifs, 0⟩] scope pos) scope X.env pos' (newList []) false (eval iter X.env) use) Qf X.xe s := by
  have hfree : ∀ y ∈ scope.names, y.2 = .free → ∃ c, X.env.cells.lookup y.1 = some c := fun y hy e => by
    rcases ok.free y hy e with k | k
    · exact I.ok.has _ (.inl k)
    · exact I.ok.has _ (.inr k)
  refine wpAny_comprehension_free (use := use) rfl hs (closure_ok hfree) ok.kind (fun y hy e => by rw [ok.uniq y hy, e])
    (thn (hi pins s σ H _ I h) fun xv s1 hx => thn hx fun itv s2 h2 => ?_)
  obtain ⟨it, fp, tn, J, H2, e, I2, T, st2, f2, q⟩ := h2
  subst e
  refine wpAny_newObj_type (newEnv_comp ?_) (by show 0 ≤ sizeLine; decide)
  generalize hD : s2.heap.objs.size = D
  have hDn : H2 D = none := I2.hok.fresh (Nat.le_of_eq hD)
  obtain ⟨W, ⟨m0, w0⟩, turn⟩ := q D hDn
  generalize hs3 : ({ s2 with heap := s2.heap.push { cls := .type "list", data := .seq ([] : List Value).toArray } } : Shared) = s3
  have I3 : Inv X pins σ (upd H2 D (.lst [])) s3 := by
    rw [← hs3]
    refine I2.laid (t' := s2.toks) (fun b o e => Heap.get?_push_of_some _ e) (Nat.le_of_eq hD) ⟨Nat.zero_le _, [], 0, .nil, ?_⟩
    rw [← hD]
    exact Heap.get?_push_size _ rfl
  have h3 : s3.heap = s2.heap.push { cls := .type "list", data := .seq ([] : List Value).toArray } := by rw [← hs3]
  have sz : ∀ b ∈ fp, b < s2.heap.objs.size := fun b hb => by
    obtain ⟨o, e, _⟩ := T.obj _ _ st2 b hb
    exact Heap.lt_size e
  have f3 : ∀ b ∈ fp, FpOk X pins (upd H2 D (.lst [])) b ∧ b < s3.heap.objs.size := fun b hb => by
    have hlt := sz b hb
    refine ⟨⟨?_, (f2 b hb).2⟩, by rw [h3, Heap.size_push]; exact Nat.lt_succ_of_lt hlt⟩
    rw [upd_ne (by rw [← hD]; exact Nat.ne_of_lt hlt)]
    exact (f2 b hb).1
  have st3 : tn 0 s3.heap := T.keep _ _ _ st2 fun b _ o e => by rw [h3]; exact Heap.get?_push_of_some _ e
  have I4 := block_start I3 ok hN f3
  have pg := hg s3 (upd H2 D (.lst [])) s3.heap.objs.size (cellsFrom (s3.heap.objs.size + 1) scope.names (cloFrom X.env.cells scope.names [])) fp
  have pt := ht s3 (upd H2 D (.lst [])) s3.heap.objs.size (cellsFrom (s3.heap.objs.size + 1) scope.names (cloFrom X.env.cells scope.names [])) fp
  have pe := he s3 (upd H2 D (.lst [])) s3.heap.objs.size (cellsFrom (s3.heap.objs.size + 1) scope.names (cloFrom X.env.cells scope.names [])) fp
  show codeAny _ _ (.compStart (.ListComp elt [⟨tg, iter, ifs, 0⟩] scope pos) 0 (.ref it) (.ref D) (compEnvC scope (cellsFrom (s3.heap.objs.size + 1) scope.names (cloFrom X.env.cells scope.names [])) s3.heap.objs.size X.env)) (compPost (model X.prog X.w) X.A X.xe use Qf (.ref D) s3.heap.objs.size) { s3 with heap := pushCells (s3.heap.push { cls := .type "dict", data := .dict #[] }) scope.names }
  have nfp : ∀ b ∈ fp, (upd H2 D (.lst [])) b = none := fun b hb => (f3 b hb).1.1
  generalize hce : compEnvC scope (cellsFrom (s3.heap.objs.size + 1) scope.names (cloFrom X.env.cells scope.names [])) s3.heap.objs.size X.env = ce at I4 pg pt pe ⊢
  have cL : ce.locals = s3.heap.objs.size := by subst hce; rfl
  generalize hH3 : upd H2 D (.lst []) = H3 at I3 I4 pg pt pe w0 nfp f3
  generalize hs4 : ({ s3 with heap := pushCells (s3.heap.push { cls := .type "dict", data := .dict #[] }) scope.names } : Shared) = s4 at I4 ⊢
  have st4 : tn 0 s4.heap := T.keep _ _ _ st3 fun b _ o e => by rw [← hs4]; exact pushCells_keeps _ _ _ _ (Heap.get?_push_of_some _ e)
  have stat : ∀ {σ' : St} {H' : Hp} {s' : Shared}, Inv (X.blk s3 H3 scope ce fp) [] σ' H' s' → (∀ b ∈ fp, H' b = none) → ∀ b ∈ fp, FpOk (X.blk s3 H3 scope ce fp) [] H' b := fun {σ' H' s'} I' hn b hb =>
    ⟨hn b hb, (I'.ok.exf b hb).1, I'.ok.exfs b hb, .inl hb, fun x c e => (I'.ok.exf b hb).2 x c e, fun p hp => absurd (show p ∈ ([] : List (Addr × Obj)) ++ [] from hp) (by simp)⟩
  have loop : codeAny (model X.prog X.w) X.A (.compLoop (.ListComp elt [⟨tg, iter, ifs, 0⟩] scope pos) 0 (.ref it) (.ref D) ce) (compPost (model X.prog X.w) X.A X.xe use Qf (.ref D) s3.heap.objs.size) s4 := by
    refine compLoop_any (fun n s' => ∃ i H', Inv (X.blk s3 H3 scope ce fp) [] (wipe σ (own.map (·.2))) H' s' ∧ tn i s'.heap ∧ (∀ b ∈ fp, H' b = none) ∧ W i n H') ?_ m0 ⟨0, H3, I4, st4, nfp, w0⟩
    rintro n s5 ⟨i, H5, I5, st5, n5, w5⟩
    rcases turn i n H5 w5 with ⟨stop, qq⟩ | ⟨go, Nx, hNx, step⟩
    · have td := T.done (X.blk s3 H3 scope ce fp) rfl rfl rfl hc i [] s5 _ H5 (fun _ _ => False) I5 (stat I5 n5) st5 stop
      refine thnF td fun r s6 ⟨hr, I6⟩ => ?_
      subst hr
      have I7 : Inv X pins σ H5 s6 := I3.call' (ch := fp) I6.os I6.base I6.hok I6.bare fun b hb => ⟨(f3 b hb).1.2.2.2.1, (f3 b hb).1.2.1, (f3 b hb).1.2.2.2.2.1, (f3 b hb).1.2.2.2.2.2⟩
      have nC : H5 s3.heap.objs.size = none := by
        have z : H5 ce.locals = none := I6.free
        rw [cL] at z
        exact z
      obtain ⟨m, hn, _⟩ := I6.loc
      have hn : s6.heap.Ns ce.locals m := hn
      rw [cL] at hn
      exact hRR D s3.heap.objs.size s6 m H5 I7 qq hn (I3.fpOk (Nat.le_refl _) nC)
    · have ti := T.item (X.blk s3 H3 scope ce fp) rfl rfl rfl hc i [] s5 _ H5 (fun _ _ => False) I5 (stat I5 n5) st5 go
      refine thnF ti fun r s6 ⟨u, hr, h6⟩ => ?_
      subst hr
      refine thnF h6 fun _ s7 ⟨x, H7, I7, r7, y7, st7, n7⟩ => ?_
      have I7' := I7.pinned (stat I7 n7) (T.obj _ _ st7)
      refine thnF (pg _ s7 _ H7 x u _ I7' r7 (step x H7 y7)) fun _ s8 ⟨σ8, H8, I8, hw8, q8⟩ => ?_
      refine thnF (pt _ s8 σ8 H8 _ I8 q8) fun b s9 ⟨H9, I9, q9⟩ => ?_
      have fin : ∀ {s' : Shared} {H' : Hp}, Inv (X.blk s3 H3 scope ce fp) ([] ++ pinsAt fp s7.heap) σ8 H' s' → Nx H' → ∃ m, m < n ∧ ∃ i H', Inv (X.blk s3 H3 scope ce fp) [] (wipe σ (own.map (·.2))) H' s' ∧ tn i s'.heap ∧ (∀ b ∈ fp, H' b = none) ∧ W i m H' := fun {s' H'} I' nx => by
        obtain ⟨m', hm, w'⟩ := hNx H' nx
        have pin' : ∀ b ∈ fp, ∀ o, s7.heap.get? b = some o → s'.heap.get? b = some o ∧ H' b = none := fun b hb o e =>
          let z := I'.pin (b, o) (List.mem_append_right _ (List.mem_append_right _ (mem_pinsAt hb e)))
          ⟨z.1, z.2.1⟩
        have hl : (wipe σ (own.map (·.2))).length = σ8.length := by rw [← hw8, wipe_length]
        refine ⟨m', hm, i + 1, H', (I'.unpinned (pins := [])).weak hl (fun j v e => ?_), T.keep _ _ _ st7 fun b hb o e => (pin' b hb o e).1, fun b hb => ?_, w'⟩
        · rw [← hw8] at e
          exact (wipe_some e).1
        · obtain ⟨o, e, _⟩ := T.obj _ _ st7 b hb
          exact (pin' b hb o e).2
      cases b with
      | false =>
        simp only [Bool.false_eq_true, if_false] at q9 ⊢
        exact fin I9 q9
      | true =>
        simp only [if_true] at q9 ⊢
        refine thnF (pe _ s9 σ8 H9 _ I9 q9) fun z s10 ⟨yv, H10, I10, r10, acc, hD10, hz10, nx⟩ => ?_
        exact app_ok (X := X.blk s3 H3 scope ce fp) I10 hD10 hz10 r10 fun s11 I11 => fin I11 nx
  exact codeAny_compStart_list loop (T.self X.A 0 _ _ _ st4 loop)
theorem pe_lc {elt tg iter : Expr} {ifs : List Expr} {scope : Scope} {own : List (Str × Nat)} {pos : Pos} {wi : TI} {g : TG} {tt : TT} {te : TE} (hc : X.calm = true) (hN : X.N.Nodup) (hi : PI X tg iter wi) (ok : BlkOk X.N X.env.scope scope own)
    (hg : ∀ (s : Shared) (H : Hp) (C : Addr) (cl : List (Str × Addr)) (fp : List Addr), PG (X.blk s H scope (compEnvC scope cl C X.env) fp) tg g) (ht : ∀ (s : Shared) (H : Hp) (C : Addr) (cl : List (Str × Addr)) (fp : List Addr), PTs (X.blk s H scope (compEnvC scope cl C X.env) fp) ifs tt)
    (he : ∀ (s : Shared) (H : Hp) (C : Addr) (cl : List (Str × Addr)) (fp : List Addr), PE (X.blk s H scope (compEnvC scope cl C X.env) fp) elt te) (hs : ∀ x, foldedSetIterable iter X.env x = pure x := by intro _; rfl) :
    PE X (.ListComp elt [⟨tg, iter, ifs, 0⟩] scope pos) (tLc wi g tt te (own.map (·.2))) := by
  intro pins s σ H Q I h
  rw [eval_ListComp]
  refine lc_core hc hN I hi ok hg ht he hs h fun D C s' m H' I' q hn f => ⟨m, hn, fun h'' sb => ?_⟩
  obtain ⟨f0, f1, f2, f3, f4, f5⟩ := f
  exact ⟨.ref D, H', I'.turned (t' := s'.toks) (fun b o hb e => (sb.2 b hb).trans e) f0 f1 f3 f4 f5, rfl, q⟩
theorem ps_setLc {i : Nat} {y : Str} {py : Pos} {elt tg iter : Expr} {ifs : List Expr} {scope : Scope} {own : List (Str × Nat)} {pos spos : Pos} {wi : TI} {g : TG} {tt : TT} {te : TE} (hc : X.calm = true) (hN : X.N.Nodup) (hy : X.N[i]? = some y) (hyl : X.env.scope.names.lookup y = some .local)
    (hsw : swapsWith (.ListComp elt [⟨tg, iter, ifs, 0⟩] scope pos) (some (.Name y py)) spos.line X.env = pure true) (hi : PI X tg iter wi) (ok : BlkOk X.N X.env.scope scope own)
    (hg : ∀ (s : Shared) (H : Hp) (C : Addr) (cl : List (Str × Addr)) (fp : List Addr), PG (X.blk s H scope (compEnvC scope cl C X.env) fp) tg g) (ht : ∀ (s : Shared) (H : Hp) (C : Addr) (cl : List (Str × Addr)) (fp : List Addr), PTs (X.blk s H scope (compEnvC scope cl C X.env) fp) ifs tt)
    (he : ∀ (s : Shared) (H : Hp) (C : Addr) (cl : List (Str × Addr)) (fp : List Addr), PE (X.blk s H scope (compEnvC scope cl C X.env) fp) elt te) (hs : ∀ x, foldedSetIterable iter X.env x = pure x := by intro _; rfl) :
    PS X (.Assign [.Name y py] (.ListComp elt [⟨tg, iter, ifs, 0⟩] scope pos) spos) (tAsg (tLc wi g tt te (own.map (·.2))) (gName i)) := by
  intro pins s σ H D I h
  rw [exec_Assign_Name_used _ _ _ _ hsw]
  refine wpAny_bind (wpAny_standAt (wpAny_bind ?_))
  show wpAny _ X.A (do let _ ← comprehension (.ListComp elt [⟨tg, iter, ifs, 0⟩] scope pos) scope X.env (firstIterPos [⟨tg, iter, ifs, 0⟩] pos) (newList []) false (eval iter X.env) (some (assign (.Name y py) X.env))) _ _ s
  have h : tLc wi g tt te (own.map (·.2)) σ H (fun x H1 => gName i x σ H1 D.nx) := h
  refine wpAny_bind (thn (lc_core (Qf := fun _ s' => SP X pins D .next s') hc hN I hi ok hg ht he hs h fun L C s' m H' I' q hn f => ?_) fun _ s' hq => wpAny_pure (wpAny_pure hq))
  show wpAny _ _ (assign (.Name y py) X.env (.ref L)) _ _ _
  refine wpAny_assign_Name (store_ok2 (v := V.ref L) I' hN hy (.inl hyl) rfl (fun s2 I2 ⟨a, sb, ha⟩ => ?_) (.inr hyl))
  obtain ⟨f0, f1, f2, f3, f4, f5⟩ := f
  have haC : C ≠ a := by
    rcases ha with z | z
    · rw [z]; exact f1
    · exact fun e => f4 y a z e.symm
  refine ⟨m, hn.sameBut sb haC, fun h3 sb3 => ?_⟩
  exact ⟨_, H', I2.turned (t' := s2.toks) (fun b o hb e => (sb3.2 b hb).trans e) f0 f1 f3 f4 f5, q⟩
end
def blkC (N : List Str) (sc scope : Scope) (own : List (Str × Nat)) : Bool :=
  (match scope.kind with | .function => true | _ => false) && (scope.names.all fun y => decide (scope.names.lookup y.1 = some y.2)) && (own.all fun p => decide (N[p.2]? = some p.1)) &&
    (scope.names.all fun y => match y.2 with
      | .free => (match sc.names.lookup y.1 with | some .cell => true | some .free => true | _ => false)
      | .local => decide (y.1 ∈ own.map (·.1)) || decide (y.1 ∉ N)
      | .cell => decide (y.1 ∈ own.map (·.1)) || decide (y.1 ∉ N)
      | _ => true)
theorem blkOk_by {N : List Str} {sc scope : Scope} {own : List (Str × Nat)} (h : blkC N sc scope own = true) : BlkOk N sc scope own := by
  unfold blkC at h
  simp only [Bool.and_eq_true, List.all_eq_true, decide_eq_true_eq] at h
  obtain ⟨⟨⟨h1, h2⟩, h3⟩, h4⟩ := h
  refine ⟨?_, h2, h3, fun y hy e => ?_, fun y hy e => ?_⟩
  · split at h1
    · assumption
    · cases h1
  · have q := h4 y hy
    simp only [e] at q
    split at q <;> first | exact .inl (by assumption) | exact .inr (by assumption) | cases q
  · have q := h4 y hy
    rcases e with e | e <;> (simp only [e, Bool.or_eq_true, decide_eq_true_eq] at q; exact q)
end L2
namespace L2
open PySem PySem.Spec PyProof.Rows
section
variable {prog : Program} {w : World} {A : Around} {R : Result → Shared → Prop} {s : Shared} {elt t0 i0 t1 i1 : Expr} {ifs0 ifs1 : List Expr} {scope : Scope} {pos : Pos} {it acc : Value} {env : Env}
end
section
variable {X : Cx}
end
end L2
namespace L2
open PySem PySem.Spec PyProof.Rows
section
variable {κ : Type} [DecidableEq κ]
end
section
variable {P : Program} {w : World} {H : Hp} {h : Heap} {a : Addr}
end
section
variable {X : Cx} {pins : List (Addr × Obj)} {σ : St} {H : Hp} {s : Shared} {a : Addr} {y v : V} {u r : Value} {o : Option V} {A : Around} {E : Value → Shared → Prop}
end
section
variable {X : Cx} {pins : List (Addr × Obj)} {σ : St} {H : Hp} {s : Shared} {a : Addr} {kvs : List (Key × V)} {k : Key} {u : Value} {A : Around} {E : Value → Shared → Prop}
end
section
variable {X : Cx} {o i e value : Expr} {pos pos' tpos : Pos} {td ty tv : TE}
end
section
variable {X : Cx} {pos : Pos}
end
section
variable {X : Cx} {pins : List (Addr × Obj)} {σ : St} {H : Hp} {s : Shared} {a : Addr} {y d : V} {u r : Value} {o : Option V} {A : Around} {E : Value → Shared → Prop}
end
section
variable {X : Cx} {o e f : Expr} {apos cpos : Pos} {td ty tx : TE}
end
section
variable {X : Cx} {pins : List (Addr × Obj)} {σ : St} {H : Hp} {s : Shared} {a : Addr} {kvs : List (Key × V)} {A : Around} {E : Value → Shared → Prop}
end
section
variable {X : Cx} {pins : List (Addr × Obj)} {σ : St} {H : Hp} {s : Shared} {a : Addr} {y : V} {u : Value} {A : Around} {E : Value → Shared → Prop}
end
end L2
namespace L2
open PySem PySem.Spec PyProof.Rows
section
variable {prog : Program} {w : World} {A : Around} {E : Value → Shared → Prop}
end
section
variable {X : Cx}
end
end L2
namespace L2
open PySem PySem.Spec PyProof.Rows
section
variable {X : Cx} {pins : List (Addr × Obj)} {σ : St} {H : Hp} {s : Shared} {h' : Heap}
theorem Inv.turnedL {t' : Nat} {ch : List Addr} (I : Inv X pins σ H s) (k : ∀ b o, b ∉ ch → s.heap.get? b = some o → h'.get? b = some o) (hf : ∀ b ∈ ch, FpOk X pins H b) : Inv X pins σ H { s with heap := h', toks := t' } := by
  have nit : ∀ b u, H b = some u → b ∉ ch := fun b u e z => by
    have q := (hf b z).1
    rw [q] at e; cases e
  refine I.step (g' := s.gens) (d' := s.drawn) (ch := ch) (fun b hb => ⟨(hf b hb).2.2.2.1, (hf b hb).2.1, (hf b hb).2.2.2.2.1, (hf b hb).2.2.2.2.2⟩) (fun b o _ _ hc e _ => k b o hc e) (fun b o _ _ hc e _ => ⟨o.slots, k b o hc e⟩)
    (fun _ _ _ _ n => n) (fun b o hc e => ⟨o, k b o hc e⟩) (fun _ _ e => e) (fun _ _ _ e => e) (fun b ps e => ⟨#[], by rw [e]; simp⟩) (fun m hm => ?_) (fun b u e => ?_) I.bare
  · obtain ⟨o, es, ep, ho, r⟩ := hm
    exact ⟨o, es, ep, k _ o (fun z => (hf _ z).2.1 rfl) ho, r⟩
  · refine (I.hok b u e).stay (fun c v hc q => k c v ?_ q) (fun _ q => q) fun _ _ q => q
    rcases hc with z | z
    · rw [z]; exact nit b u e
    · exact nit c _ z
theorem Inv.turnedNew {t' : Nat} {ch : List Addr} {T : Addr} {ob : HO} (I : Inv X pins σ H s) (k : ∀ b o, b ∉ ch → s.heap.get? b = some o → h'.get? b = some o) (hf : ∀ b ∈ ch, FpOk X pins H b) (hT : s.heap.objs.size ≤ T)
    (new : ObjOk X.prog X.w (upd H T ob) h' T ob) : Inv X pins σ (upd H T ob) { s with heap := h', toks := t' } := by
  have hn : H T = none := I.hok.fresh hT
  have nit : ∀ b u, H b = some u → b ∉ ch := fun b u e z => by
    have q := (hf b z).1
    rw [q] at e; cases e
  refine I.step (g' := s.gens) (d' := s.drawn) (ch := ch) (fun b hb => ⟨(hf b hb).2.2.2.1, (hf b hb).2.1, (hf b hb).2.2.2.2.1, (hf b hb).2.2.2.2.2⟩) (fun b o _ _ hc e _ => k b o hc e) (fun b o _ _ hc e _ => ⟨o.slots, k b o hc e⟩)
    (fun b o _ e n => ?_) (fun b o hc e => ⟨o, k b o hc e⟩) (fun b xs e => ?_) (fun b o u e => ?_) (fun b ps e => ⟨#[], ?_⟩) (fun m hm => ?_) (fun b u e => ?_) I.bare
  · rw [upd_ne (Nat.ne_of_lt (Nat.lt_of_lt_of_le (Heap.lt_size e) hT))]; exact n
  · rw [upd_ne (ne_of_none e hn)]; exact e
  · rw [upd_ne (ne_of_none e hn)]; exact e
  · rw [upd_ne (ne_of_none e hn), e]; simp
  · obtain ⟨o, es, ep, ho, r⟩ := hm
    exact ⟨o, es, ep, k _ o (fun z => (hf _ z).2.1 rfl) ho, r⟩
  · by_cases hb : b = T
    · subst hb
      rw [upd_same] at e
      cases e
      exact new
    · rw [upd_ne hb] at e
      refine (I.hok b u e).stay (fun c v hc q => k c v ?_ q) (fun c q => by rw [upd_ne (ne_of_none q hn)]; exact q) fun c xs q => by rw [upd_ne (ne_of_none q hn)]; exact q
      rcases hc with z | z
      · rw [z]; exact nit b u e
      · exact nit c _ z
end
section
variable {X : Cx}
theorem pi_one {tg : Expr} {pins : List (Addr × Obj)} {σ : St} {H : Hp} {s : Shared} {R : It → Hp → Prop} {J : It} {tn : Nat → Heap → Prop} {tk : Nat} (I : Inv X pins σ H s) (o : Obj)
    (T : Turn X.prog X.w X.K tg J [s.heap.objs.size] s.heap.objs.size tn) (st : tn 0 (s.heap.push o)) (q : R J H) : PIE X pins σ tg R (.ref s.heap.objs.size) { s with heap := s.heap.push o, toks := tk } := by
  refine ⟨s.heap.objs.size, [s.heap.objs.size], tn, J, H, rfl, I.kept fun b ob e => Heap.get?_push_of_some _ e, T, st, fun b hb => ?_, q⟩
  have e : b = s.heap.objs.size := by simpa using hb
  subst e
  exact I.fpOk (Nat.le_refl _) (I.hok.fresh (Nat.le_refl _))
end
def Itc (lo c : Int) (n : Nat) : It := ⟨fun i _ => i < n, fun i H x H' => H' = H ∧ x = .int (lo + (i : Nat) * c), fun i _ => n ≤ i⟩
theorem turn_rangeC {P : Program} {w : World} {K : PySem.W.Frag} {tg : Expr} (it : Addr) (lo c : Int) (n : Nat) : Turn P w K tg (Itc lo c n) [it] it (fun i h => IsRangeIter h it (lo + (i : Nat) * c) ((n : Int) - (i : Nat)) c) where
  mem := by simp
  obj := fun i h st b hb => by
    have e : b = it := by simpa using hb
    subst e
    exact ⟨_, st, fun v z => nomatch z⟩
  keep := fun i h h' st k => k it (by simp) _ st
  item := by
    intro X hP hw hK hc i pins s σ H E I hf st hg
    subst hP hw hK
    obtain ⟨f0, f1, f2, f3, f4, f5⟩ := hf it (by simp)
    have W := Walks.range (prog := X.prog) (w := X.w) (I.ok.hd hc) it lo c n
    refine W.item i s _ _ hg st fun v h' tk hv st' kk => ?_
    obtain ⟨t, rfl⟩ := hv
    have I1 : Inv X pins σ H { s with heap := h', toks := tk } := I.turned (fun b o hb e => kk b o (by simpa using hb) e) f0 f1 f3 f4 f5
    exact ⟨_, rfl, go_of (s := { s with heap := h', toks := tk }) (n := "range_iterator") st' rfl rfl (by decide) ⟨.int (lo + (i : Nat) * c), H, I1, ⟨t, rfl⟩, ⟨rfl, rfl⟩, st', fun b hb => (hf b hb).1⟩⟩
  done := by
    intro X hP hw hK hc i pins s σ H E I hf st hg
    subst hP hw hK
    obtain ⟨f0, f1, f2, f3, f4, f5⟩ := hf it (by simp)
    exact wpAny_pyNext_range_end (I.ok.hd hc) st (by have : n ≤ i := hg; omega) fun h' eb => ⟨rfl, I.turned (t' := s.toks) (fun b o hb e => eb b o hb e) f0 f1 f3 f4 f5⟩
  self := fun A i s Q E st h => wpAny_pyIter_rangeiter st h
def RgC (i j c : Int) (n : Nat) : Prop := c ≠ 0 ∧ c.natAbs < 1073741824 ∧ Builtin.Range.small i j c = true ∧ Builtin.Range.rangeSize i j c = n
def iRng3 (ta : TA) : TI := fun σ H R => ta σ H fun vs H1 => ∃ (i j c : Int) (n : Nat), vs = [.int i, .int j, .int c] ∧ RgC i j c n ∧ R (Itc i c n) H1
section
variable {X : Cx} {tg : Expr}
theorem pi_range3 {a b c : Expr} {ta : TA} {p pos : Pos} (hg : Gl X "range") (hm : X.mg "range" = none) (ha : PA X [a, b, c] ta)
    (hs : starEach [a, b, c] X.env = (false, eval a X.env) :: starEach [b, c] X.env := by rfl) (hpl : (backTo pos (starEach [b, c] X.env)).any (·.1) = false := by rfl) :
    PI X tg (.Call (.Name "range" p) [a, b, c] [] pos) (iRng3 ta) := by
  intro pins s σ H R I h
  refine Call_ (ld_blt I hg hm boot_range (PyProof.Rows.callWith_type1 (thn (ha pos pins s σ H _ I h) fun us s1 ⟨vs, H1, I1, r1, q1⟩ => ?_) hs hpl))
  obtain ⟨i, j, k, n, e, ⟨c0, c1, c2, c3⟩, q⟩ := q1
  subst e
  cases r1 with
  | cons r rr =>
    cases rr with
    | cons r' rr =>
      cases rr with
      | cons r'' rr =>
        cases rr
        obtain ⟨t, rfl⟩ := r
        obtain ⟨t', rfl⟩ := r'
        obtain ⟨t'', rfl⟩ := r''
        refine call_range_3 c0 ?_ (.inl (PyProof.noPylong_small c1))
        refine wpAny_pyIter_range (IsRange.new ..) c2 ?_
        have I2 : Inv X pins σ H1 { s1 with heap := s1.heap.push { cls := .type "range", data := .fields #[.int i t, .int j t', .int k t''] } } := I1.kept (t' := s1.toks) fun b o e => Heap.get?_push_of_some _ e
        refine pi_one (tk := s1.toks) I2 _ (turn_rangeC _ i k n) ?_ q
        have e1 : i + ((0 : Nat) : Int) * k = i := by simp
        have e2 : (n : Int) - ((0 : Nat) : Int) = Builtin.Range.rangeSize i j k := by rw [c3]; simp
        show IsRangeIter _ _ (i + ((0 : Nat) : Int) * k) ((n : Int) - ((0 : Nat) : Int)) k
        rw [e1, e2]
        exact Heap.get?_push_size _ rfl
end
section
variable {X : Cx} {tg : Expr}
end
section
variable {prog : Program} {w : World} {A : Around} {E : Value → Shared → Prop} {s : Shared}
end
section
variable {X : Cx} {pins : List (Addr × Obj)} {σ : St} {H : Hp} {s : Shared} {d : Addr} {o : Obj}
end
section
variable {P : Program} {w : World} {K : PySem.W.Frag} {tg : Expr} {d : Addr} {o : Obj} {es : Array DictEntry} {ep : Nat}
end
section
variable {X : Cx} {tg e : Expr} {td : TE} {apos cpos : Pos}
end
def Ite (K : PySem.W.Frag) (a : Addr) : It :=
  ⟨fun i H => ∃ (xs : List V) (x : V), SqL K H a xs ∧ xs[i]? = some x, fun i H v H' => ∃ T x, v = .ref T ∧ H T = none ∧ H' = upd H T (.tup [.int (i : Nat), x]) ∧ ∀ xs, SqL K H a xs → xs[i]? = some x, fun i H => ∃ xs : List V, SqL K H a xs ∧ xs.length ≤ i⟩
theorem turn_enum {P : Program} {w : World} {K : PySem.W.Frag} {elts : List Expr} {kk : Nat} {tpos : Pos} (a e it : Addr) :
    Turn P w K (.Tuple elts kk tpos) (Ite K a) [e, it] e (fun i h => (∃ old, IsEnum h e it ((i : Nat) : Int) old) ∧ h.IsListIter it a i ∧ e ≠ it) where
  mem := by simp
  obj := fun i h st b hb => by
    obtain ⟨⟨old, he⟩, ⟨o, ho, hc, hd⟩, _⟩ := st
    have e' : b = e ∨ b = it := by simpa using hb
    rcases e' with z | z
    · rw [z]; exact ⟨_, he, fun v q => nomatch q⟩
    · rw [z]; exact ⟨o, ho, fun v q => by rw [hd] at q; cases q⟩
  keep := fun i h h' st k => let ⟨⟨old, he⟩, hi, hne⟩ := st; ⟨⟨old, k e (by simp) _ he⟩, hi.at fun o q => k it (by simp) o q, hne⟩
  item := by
    intro X hP hw hK hc i pins s σ H E I hf st hg
    subst hP hw hK
    obtain ⟨⟨old, he⟩, hit, hne⟩ := st
    obtain ⟨xs, x, hq, hx⟩ := hg
    obtain ⟨its, rv, p, hz⟩ := I.list hq
    obtain ⟨u, hu, ru⟩ := rv.get hx
    have hel : e < s.heap.objs.size := Heap.lt_size he
    have hil : it < s.heap.objs.size := by obtain ⟨_, q, _⟩ := hit; exact Heap.lt_size q
    refine wpAny_pyNext_enum_item he hit p.isList (x := u) (by simpa using hu) hne fun h' ho hit' hT hsz hk => ?_
    refine ⟨_, rfl, wpAny_letOwnedTupleGo_enum (s := { s with heap := h', toks := s.toks + 1 }) ho fun h'' he' sb => ?_⟩
    have hT2 : h''.get? s.heap.objs.size = some { cls := .type "tuple", data := .seq #[.int i s.toks, u] } := (sb.2 _ (Nat.ne_of_gt hel)).trans hT
    have new : ObjOk X.prog X.w (upd H s.heap.objs.size (.tup [.int (i : Nat), x])) h'' s.heap.objs.size (.tup [.int (i : Nat), x]) :=
      ⟨by show 2 ≤ sizeLine; decide, [.int i s.toks, u], .cons ⟨_, rfl⟩ (.cons ru .nil), ⟨_, hT2, rfl, _, rfl⟩⟩
    have I1 : Inv X pins σ (upd H s.heap.objs.size (.tup [.int (i : Nat), x])) { s with heap := h'', toks := s.toks + 1 } :=
      I.turnedNew (ch := [e, it]) (fun b ob hb q => (sb.2 b (fun z => hb (by simp [z]))).trans (hk b ob (fun z => hb (by simp [z])) (fun z => hb (by simp [z])) q)) hf (Nat.le_refl _) new
    refine ⟨.ref s.heap.objs.size, _, I1, rfl, ⟨_, x, rfl, I.hok.fresh (Nat.le_refl _), rfl, fun ys hy => by rw [I.list_inj hy hq]; exact hx⟩, ⟨⟨u, ?_⟩, hit'.at fun o q => (sb.2 it (Ne.symm hne)).trans q, hne⟩, fun b hb => ?_⟩
    · have e1 : ((i + 1 : Nat) : Int) = (i : Int) + 1 := by omega
      rw [e1]; exact he'
    · have hb' : b < s.heap.objs.size := by
        have e' : b = e ∨ b = it := by simpa using hb
        rcases e' with z | z
        · rw [z]; exact hel
        · rw [z]; exact hil
      rw [upd_ne (Nat.ne_of_lt hb')]
      exact (hf b hb).1
  done := by
    intro X hP hw hK hc i pins s σ H E I hf st hg
    subst hP hw hK
    obtain ⟨⟨old, he⟩, hit, hne⟩ := st
    obtain ⟨xs, hq, hx⟩ := hg
    obtain ⟨its, rv, p, hz⟩ := I.list hq
    obtain ⟨f0, f1, f2, f3, f4, f5⟩ := hf it (by simp)
    have hl := rv.length
    exact wpAny_pyNext_enum_end (I.ok.hd hc) he hit p.isList (by simp; omega) fun h' eb => ⟨rfl, I.turned (t' := s.toks) (fun b o hb q => eb b o hb q) f0 f1 f3 f4 f5⟩
  self := fun A i s Q E st h => let ⟨⟨_, he⟩, _⟩ := st; wpAny_pyIter_enum he h
def iEnum (K : PySem.W.Frag) (ta : TA) : TI := fun σ H R => ta σ H fun vs H1 => ∃ a xs, vs = [.ref a] ∧ SqL K H1 a xs ∧ R (Ite K a) H1
theorem pi_enum {X : Cx} {e : Expr} {ta : TA} {p pos tpos : Pos} {elts : List Expr} {kk : Nat} (hg : Gl X "enumerate") (hm : X.mg "enumerate" = none) (ha : PA X [e] ta) (hs : starEach [e] X.env = [(false, eval e X.env)] := by rfl) :
    PI X (.Tuple elts kk tpos) (.Call (.Name "enumerate" p) [e] [] pos) (iEnum X.K ta) := by
  intro pins s σ H R I h
  refine Call_ (ld_blt I hg hm boot_enumerate (PyProof.Rows.callWith_type1 (thn (ha pos pins s σ H _ I h) fun us s1 ⟨vs, H1, I1, r1, q1⟩ => ?_) hs rfl))
  obtain ⟨a, xs, ex, hq, q⟩ := q1
  subst ex
  cases r1 with
  | cons r rr =>
    cases rr
    cases r
    obtain ⟨its, rv, p', hz⟩ := I1.list hq
    refine call_enumerate_list p'.isList fun h' he hit hsz hk => wpAny_pyIter_enum he ?_
    have I2 : Inv X pins σ H1 { s1 with heap := h' } := I1.kept (t' := s1.toks) hk
    refine ⟨s1.heap.objs.size + 1, [s1.heap.objs.size + 1, s1.heap.objs.size], _, _, H1, rfl, I2, turn_enum a (s1.heap.objs.size + 1) s1.heap.objs.size, ⟨⟨.none, he⟩, hit, Nat.succ_ne_self _⟩, fun b hb => ?_, q⟩
    have e' : b = s1.heap.objs.size + 1 ∨ b = s1.heap.objs.size := by simpa using hb
    have hle : s1.heap.objs.size ≤ b := by
      rcases e' with z | z
      · rw [z]; exact Nat.le_add_right _ _
      · rw [z]; exact Nat.le_refl _
    exact I1.fpOk hle (I1.hok.fresh hle)
theorem boot_zip5 : bootBuiltins "zip" = some (.type "zip") := by decide +kernel
def Itz (K : PySem.W.Frag) (a b : Addr) : It :=
  ⟨fun i H => ∃ (xs ys : List V) (x y : V), SqL K H a xs ∧ SqL K H b ys ∧ xs[i]? = some x ∧ ys[i]? = some y,
    fun i H v H' => ∃ T x y, v = .ref T ∧ H T = none ∧ H' = upd H T (.tup [x, y]) ∧ (∀ xs, SqL K H a xs → xs[i]? = some x) ∧ ∀ ys, SqL K H b ys → ys[i]? = some y,
    fun i H => ∃ xs ys : List V, SqL K H a xs ∧ SqL K H b ys ∧ (xs.length ≤ i ∨ ys.length ≤ i)⟩
theorem turn_zip {P : Program} {w : World} {K : PySem.W.Frag} {elts : List Expr} {kk : Nat} {tpos : Pos} {a b z TI TO i1 i2 : Addr} (D : ZipApart z TI TO i1 i2 a b) :
    Turn P w K (.Tuple elts kk tpos) (Itz K a b) [z, TI, TO, i1, i2] z (fun i h => IsZip h z TI TO .none ∧ IsPair h TI (.ref i1) (.ref i2) ∧ (∃ x y, IsPair h TO x y) ∧ h.IsListIter i1 a i ∧ h.IsListIter i2 b i) where
  mem := by simp
  obj := fun i h st c hc => by
    obtain ⟨hz, hTI, ⟨x, y, hTO⟩, ⟨o1, e1, _, d1⟩, ⟨o2, e2, _, d2⟩⟩ := st
    have e' : c = z ∨ c = TI ∨ c = TO ∨ c = i1 ∨ c = i2 := by simpa using hc
    rcases e' with q | q | q | q | q
    · rw [q]; exact ⟨_, hz, fun v q => nomatch q⟩
    · rw [q]; exact ⟨_, hTI, fun v q => nomatch q⟩
    · rw [q]; exact ⟨_, hTO, fun v q => nomatch q⟩
    · rw [q]; exact ⟨o1, e1, fun v q => by rw [d1] at q; cases q⟩
    · rw [q]; exact ⟨o2, e2, fun v q => by rw [d2] at q; cases q⟩
  keep := fun i h h' st k => by
    obtain ⟨hz, hTI, ⟨x, y, hTO⟩, h1, h2⟩ := st
    exact ⟨k z (by simp) _ hz, k TI (by simp) _ hTI, ⟨x, y, k TO (by simp) _ hTO⟩, h1.at fun o q => k i1 (by simp) o q, h2.at fun o q => k i2 (by simp) o q⟩
  item := by
    intro X hP hw hK hc i pins s σ H E I hf st hg
    subst hP hw hK
    obtain ⟨hz, hTI, ⟨x0, y0, hTO⟩, h1, h2⟩ := st
    obtain ⟨xs, ys, x, y, hqx, hqy, hx, hy⟩ := hg
    obtain ⟨its, rv, p, _⟩ := I.list hqx
    obtain ⟨its2, rv2, p2, _⟩ := I.list hqy
    obtain ⟨u, hu, ru⟩ := rv.get hx
    obtain ⟨u2, hu2, ru2⟩ := rv2.get hy
    have hzl : z < s.heap.objs.size := Heap.lt_size hz
    refine wpAny_pyNext_zip_item D hz hTI hTO h1 h2 p.isList p2.isList (x := u) (y := u2) (by simpa using hu) (by simpa using hu2) fun h' z' TO' h1' h2' hT hsz hk => ?_
    refine ⟨_, rfl, wpAny_letOwnedTupleGo_zip (s := { s with heap := h' }) z' fun h'' z'' sb => ?_⟩
    have hT2 : h''.get? s.heap.objs.size = some { cls := .type "tuple", data := .seq #[u, u2] } := (sb.2 _ (Nat.ne_of_gt hzl)).trans hT
    have new : ObjOk X.prog X.w (upd H s.heap.objs.size (.tup [x, y])) h'' s.heap.objs.size (.tup [x, y]) :=
      ⟨by show 2 ≤ sizeLine; decide, [u, u2], .cons ru (.cons ru2 .nil), ⟨_, hT2, rfl, _, rfl⟩⟩
    have I1 : Inv X pins σ (upd H s.heap.objs.size (.tup [x, y])) { s with heap := h'' } :=
      I.turnedNew (t' := s.toks) (ch := [z, TI, TO, i1, i2]) (fun c o hb q => (sb.2 c (fun q' => hb (by simp [q']))).trans (hk c o (fun q' => hb (by simp [q'])) (fun q' => hb (by simp [q'])) (fun q' => hb (by simp [q'])) (fun q' => hb (by simp [q'])) q)) hf (Nat.le_refl _) new
    refine ⟨.ref s.heap.objs.size, _, I1, rfl, ⟨_, x, y, rfl, I.hok.fresh (Nat.le_refl _), rfl, fun l hl => by rw [I.list_inj hl hqx]; exact hx, fun l hl => by rw [I.list_inj hl hqy]; exact hy⟩, ⟨z'', ?_, ⟨u, u2, ?_⟩, ?_, ?_⟩, fun c hcm => ?_⟩
    · exact (sb.2 _ D.TIz).trans (hk _ _ D.TIz D.TITO D.TIi1 D.TIi2 hTI)
    · exact (sb.2 _ D.TOz).trans TO'
    · exact h1'.at fun o q => (sb.2 _ D.i1z).trans q
    · exact h2'.at fun o q => (sb.2 _ D.i2z).trans q
    · have hlt : c < s.heap.objs.size := by
        have e' : c = z ∨ c = TI ∨ c = TO ∨ c = i1 ∨ c = i2 := by simpa using hcm
        rcases e' with q | q | q | q | q
        · rw [q]; exact hzl
        · rw [q]; exact Heap.lt_size hTI
        · rw [q]; exact Heap.lt_size hTO
        · rw [q]; obtain ⟨_, e1, _⟩ := h1; exact Heap.lt_size e1
        · rw [q]; obtain ⟨_, e2, _⟩ := h2; exact Heap.lt_size e2
      rw [upd_ne (Nat.ne_of_lt hlt)]
      exact (hf c hcm).1
  done := by
    intro X hP hw hK hc i pins s σ H E I hf st hg
    subst hP hw hK
    obtain ⟨hz, hTI, ⟨x0, y0, hTO⟩, h1, h2⟩ := st
    obtain ⟨xs, ys, hqx, hqy, hend⟩ := hg
    obtain ⟨its, rv, p, _⟩ := I.list hqx
    obtain ⟨its2, rv2, p2, _⟩ := I.list hqy
    have l1 := rv.length
    have l2 := rv2.length
    have he : its.toArray[i]? = none ∨ its2.toArray[i]? = none := by
      rcases hend with q | q
      · exact .inl (by simp; omega)
      · exact .inr (by simp; omega)
    exact wpAny_pyNext_zip_end (I.ok.hd hc) D hz hTI hTO h1 h2 p.isList p2.isList he fun h' hk => ⟨rfl, I.turnedL (t' := s.toks) (ch := [z, TI, TO, i1, i2]) (fun c o hb q =>
      hk c o (fun q' => hb (by simp [q'])) (fun q' => hb (by simp [q'])) (fun q' => hb (by simp [q'])) (fun q' => hb (by simp [q'])) q) hf⟩
  self := fun A i s Q E st h => wpAny_pyIter_zip st.1 h
def iZip (K : PySem.W.Frag) (ta : TA) : TI := fun σ H R => ta σ H fun vs H1 => ∃ a b xs ys, vs = [.ref a, .ref b] ∧ SqL K H1 a xs ∧ SqL K H1 b ys ∧ R (Itz K a b) H1
theorem pi_zip {X : Cx} {e e2 : Expr} {ta : TA} {p pos tpos : Pos} {elts : List Expr} {kk : Nat} (hg : Gl X "zip") (hm : X.mg "zip" = none) (ha : PA X [e, e2] ta)
    (hs : starEach [e, e2] X.env = (false, eval e X.env) :: starEach [e2] X.env := by rfl) (hpl : (backTo pos (starEach [e2] X.env)).any (·.1) = false := by rfl) :
    PI X (.Tuple elts kk tpos) (.Call (.Name "zip" p) [e, e2] [] pos) (iZip X.K ta) := by
  intro pins s σ H R I h
  refine Call_ (ld_blt I hg hm boot_zip5 (PyProof.Rows.callWith_type1 (thn (ha pos pins s σ H _ I h) fun us s1 ⟨vs, H1, I1, r1, q1⟩ => ?_) hs hpl))
  obtain ⟨a, b, xs, ys, ex, hqx, hqy, q⟩ := q1
  subst ex
  cases r1 with
  | cons r rr =>
    cases rr with
    | cons r' rr =>
      cases rr
      cases r
      cases r'
      obtain ⟨its, rv, p1, _⟩ := I1.list hqx
      obtain ⟨its2, rv2, p2, _⟩ := I1.list hqy
      have la : a < s1.heap.objs.size := p1.lt
      have lb : b < s1.heap.objs.size := p2.lt
      refine call_zip_2 p1.isList p2.isList fun h' hz hTI hTO h1 h2 hsz hk => wpAny_pyIter_zip hz ?_
      have I2 : Inv X pins σ H1 { s1 with heap := h' } := I1.kept (t' := s1.toks) hk
      refine ⟨s1.heap.objs.size + 4, [s1.heap.objs.size + 4, s1.heap.objs.size + 2, s1.heap.objs.size + 3, s1.heap.objs.size, s1.heap.objs.size + 1], _, _, H1, rfl, I2, turn_zip (PySem.W.ktu_apart s1.heap.objs.size a b la lb), ⟨hz, hTI, ⟨_, _, hTO⟩, h1, h2⟩, fun c hcm => ?_, q⟩
      have e' : c = s1.heap.objs.size + 4 ∨ c = s1.heap.objs.size + 2 ∨ c = s1.heap.objs.size + 3 ∨ c = s1.heap.objs.size ∨ c = s1.heap.objs.size + 1 := by simpa using hcm
      have hle : s1.heap.objs.size ≤ c := by
        rcases e' with z | z | z | z | z
        · rw [z]; exact Nat.le_add_right _ _
        · rw [z]; exact Nat.le_add_right _ _
        · rw [z]; exact Nat.le_add_right _ _
        · rw [z]; exact Nat.le_refl _
        · rw [z]; exact Nat.le_add_right _ _
      exact I1.fpOk hle (I1.hok.fresh hle)
end L2
section 
namespace Bits
open PySem PyProof.Rows
end Bits
end 
section 
namespace TL
open PySem PySem.Builtin PySem.Builtin.Str PySem.StrLaws
end TL
end 
namespace L2
open PySem PySem.Spec PyProof.Rows
section
variable {X : Cx} {pins : List (Addr × Obj)} {σ : St} {H : Hp} {s : Shared} {Q : VK}
end
section
variable {X : Cx}
end
section
variable {X : Cx} {o e : Expr} {to te : TE}
end
end L2
namespace L2
open PySem PySem.Spec PyProof.Rows
section
variable {X : Cx}
end
end L2
namespace Att
open PySem PySem.W PySem.Calls PyProof.Rows
section
variable {prog : Program} {w : World} {A : Around} {E : Value → Shared → Prop} {s : Shared} {K : Frag}
end
end Att
namespace L2
open PySem PySem.Spec PyProof.Rows
end L2
namespace L2
open PySem PySem.Spec PyProof.Rows
abbrev KOf {K : PySem.W.Frag} {h : Heap} (_ : K.In h) : PySem.W.Frag := K
end L2
namespace L2
open PySem PySem.Spec PyProof.Rows
def inClass (s : Stmt) (j : Nat) : Stmt := match s with
  | .ClassDef _ _ _ body _ _ _ _ _ _ _ => body.getD j (.Pass ⟨0, 0, 0, 0⟩)
  | _ => .Pass ⟨0, 0, 0, 0⟩
def defArgs (s : Stmt) : Arguments := match s with
  | .FunctionDef _ a _ _ _ _ _ _ _ _ => a
  | _ => { posonlyargs := [], args := [], vararg := none, kwonlyargs := [], kw_defaults := [], kwarg := none, defaults := [] }
def defBody (s : Stmt) : List Stmt := match s with
  | .FunctionDef _ _ b _ _ _ _ _ _ _ => b
  | _ => []
def defScope (s : Stmt) : Scope := match s with
  | .FunctionDef _ _ _ _ _ _ sc _ _ _ => sc
  | _ => { kind := .function, names := [], isGenerator := false, isCoroutine := false }
abbrev CX0 : CXT := fun _ _ _ _ _ _ => False
abbrev E0 : XK := fun _ _ _ => False
theorem pass0 {X : Cx} : Passes CX0 X E0 := fun _ _ _ _ _ _ _ h => h.elim
structure Fun (K : PySem.W.Frag) (x qual : Str) (st : Stmt) (f : Addr) (fd : FuncData) : Prop where
  ex : ∃ (oc : Value) (od : Option Addr) (kV doc pm : Value) (an : Option Addr) (cdv ct : Value) (osl : Array (Option Value)),
    fd = PySem.W.fnOf x qual (defArgs st) (defBody st) (defScope st) .none kV doc pm an cdv ct ∧ K.lookup f = some ⟨oc, od, .func fd, osl⟩ ∧ PySem.W.codeIn K cdv qual = true
  kp : PySem.W.keepIn K (.ref f) = true
section
variable {P : Program} {w : World} {K : PySem.W.Frag} {mg : Str → Option Value} {base : Heap}
theorem Fun.ok {x qual : Str} {st : Stmt} {f : Addr} {fd : FuncData} {N ps : List Str} {k : Nat} {sp : Sp} (F : Fun K x qual st f fd) (S : FnScope N ps (defScope st)) (len : ∀ vs H Q E, sp vs H Q E → vs.length = ps.length)
    (hbody : ∀ (cdv : Value) (A : Around) (outer : List Env) (s : Shared) (H : Hp) (vs : List V) (Q : VK) (E : XK), Room k (A.deeper (envOfC qual (defScope st) s.heap.objs.size f cdv)) → sp vs H Q E →
      ∃ t, PSs (cxOf CX0 P w K mg base N qual (defScope st) f cdv A outer s H E).nox (defBody st) t ∧ t { nx := fun _ H' => Q .non H', rt := Q } (start N vs) H) : FnOk P w K mg base CX0 (k + 1) f fd ps sp := by
  obtain ⟨oc, od, kV, doc, pm, an, cdv, ct, osl, rfl, lk, hcd⟩ := F.ex
  refine fn_of lk hcd S len fun A outer s H vs Q E hr hsp => ?_
  obtain ⟨t, h, q⟩ := hbody cdv A outer s H vs Q E hr hsp
  exact ⟨t, h.nox, q⟩
theorem Fun.binds {x qual : Str} {st : Stmt} {f : Addr} {fd : FuncData} {ps : List Str} (F : Fun K x qual st f fd)
    (h : ∀ (kV doc pm : Value) (an : Option Addr) (cdv ct : Value) (us : List Value), us.length = ps.length → bindArgs (PySem.W.fnOf x qual (defArgs st) (defBody st) (defScope st) .none kV doc pm an cdv ct) ⟨us, []⟩ = pure (ps.zip us)) : Binds K fd ps [] := by
  obtain ⟨oc, od, kV, doc, pm, an, cdv, ct, osl, rfl, lk, hcd⟩ := F.ex
  exact .all (h kV doc pm an cdv ct)
theorem fun_mk {x qual : Str} {st : Stmt} {f : Addr} {oc : Value} {od an : Option Addr} {osl : Array (Option Value)} {kV doc pm cdv ct : Value} (l : K.lookup f = some ⟨oc, od, .func (PySem.W.fnOf x qual (defArgs st) (defBody st) (defScope st) .none kV doc pm an cdv ct), osl⟩)
    (c : PySem.W.codeIn K cdv qual = true) (k : PySem.W.keepIn K (.ref f) = true) : Fun K x qual st f (PySem.W.fnOf x qual (defArgs st) (defBody st) (defScope st) .none kV doc pm an cdv ct) := ⟨⟨oc, od, kV, doc, pm, an, cdv, ct, osl, rfl, l, c⟩, k⟩
end
section
variable {X : Cx}
theorem pv (i : Nat) {x : Str} {pos : Pos} (hN : X.N[i]? = some x := by rfl) (hv : Vis X.env.scope x := by first | exact Or.inl rfl | exact Or.inr (Or.inl rfl) | exact Or.inr (Or.inr rfl)) (hd : (x == ("__debug__" : Str)) = false := by decide)
    (hcd : (x == ("__classdict__" : Str)) = false := by decide) : PE X (.Name x pos) (tVar i) := pe_var hN hv hd hcd
end
theorem iteF {A B : Prop} (h : B) : if false = true then A else B := by
  rw [if_neg Bool.false_ne_true]
  exact h
theorem iteT {A B : Prop} (h : A) : if true = true then A else B := by
  rw [if_pos rfl]
  exact h
theorem ite2 {c A B : Prop} [Decidable c] (h1 : c → A) (h2 : ¬ c → B) : if c then A else B := by
  by_cases h : c
  · rw [if_pos h]
    exact h1 h
  · rw [if_neg h]
    exact h2 h
def Same (H H' : Hp) : Prop := ∀ b o, H b = some o → H' b = some o
theorem Same.refl (H : Hp) : Same H H := fun _ _ h => h
theorem Same.trans {H H1 H2 : Hp} (a : Same H H1) (b : Same H1 H2) : Same H H2 := fun c o h => b c o (a c o h)
theorem Same.seq {K : PySem.W.Frag} {H H' : Hp} {a : Addr} {xs : List V} (e : Same H H') (h : SqL K H a xs) : SqL K H' a xs := by
  rcases h with (h | ⟨o, h⟩) | h
  · exact .inl (.inl (e _ _ h))
  · exact .inl (.inr ⟨o, e _ _ h⟩)
  · exact .inr h
section
variable {κ : Type} [DecidableEq κ]
end
end L2
set_option maxHeartbeats 2000000
namespace L2
open PySem PySem.Spec PyProof.Rows
open PySem.W (WData Codec OpenSpec Well WellAll ReadsW ReadsAllW)
mutual
inductive Dw (K : PySem.W.Frag) (H : Hp) : V → WData → Prop
  | non : Dw K H .non .none
  | bl (b : Bool) : Dw K H (.bl b) (.bool b)
  | int (i : Int) : Dw K H (.int i) (.int i)
  | str (x : Str) : Dw K H (.str x) (.str x)
  | byt (b : Array UInt8) : Dw K H (.byt b) (.bytes b.toList)
  | lst {a : Addr} {xs : List V} {ds : List WData} : SqL K H a xs → DwAll K H xs ds → Dw K H (.ref a) (.list ds)
  | tup {a : Addr} {xs : List V} {ds : List WData} : SqT K H a xs → DwAll K H xs ds → Dw K H (.ref a) (.tuple ds)
inductive DwAll (K : PySem.W.Frag) (H : Hp) : List V → List WData → Prop
  | nil : DwAll K H [] []
  | cons {v : V} {vs : List V} {d : WData} {ds : List WData} : Dw K H v d → DwAll K H vs ds → DwAll K H (v :: vs) (d :: ds)
end
theorem dw_ints {K : PySem.W.Frag} {H : Hp} : ∀ ns : List Int, DwAll K H (ns.map V.int) (ns.map WData.int)
  | [] => .nil
  | n :: r => .cons (.int n) (dw_ints r)
theorem ints_dw {K : PySem.W.Frag} {H : Hp} : ∀ (ns : List Int) (xs : List V), DwAll K H xs (ns.map WData.int) → xs = ns.map V.int
  | [], xs, h => by
    cases h
    rfl
  | n :: r, xs, h => by
    cases h with
    | cons h1 h2 =>
      cases h1
      rw [ints_dw r _ h2] <;> rfl
section
variable {P : Program} {w : World} {K : PySem.W.Frag} {H : Hp} {h : Heap} {R : PySem.W.WRecords} {cl : Str → Option Addr}
theorem sqL_at {a : Addr} {xs : List V} (hok : HOk P w H h) (KX : K.In h) (q : SqL K H a xs) : ∃ (its : List Value) (o : Obj) (n : Nat), Vals xs its ∧ h.get? a = some o ∧ o.cls = .type "list" ∧ o.data = .seq its.toArray n := by
  rcases q with q | ⟨o, its, n, e, hc, _, hd, _, hv⟩
  · obtain ⟨_, its, n, hv, e⟩ := (show ObjOk P w H h a (.lst xs) from q.ok hok)
    exact ⟨its, _, n, hv, e, rfl, rfl⟩
  · exact ⟨its.toList, o, n, hv, KX _ _ e, hc, by simp [hd]⟩
theorem sqT_at {a : Addr} {xs : List V} (hok : HOk P w H h) (KX : K.In h) (q : SqT K H a xs) : ∃ (its : List Value) (o : Obj) (n : Nat), Vals xs its ∧ h.get? a = some o ∧ o.cls = .type "tuple" ∧ o.data = .seq its.toArray n := by
  rcases q with q | ⟨o, its, n, e, hc, hd, _, hv⟩
  · obtain ⟨_, its, hv, o, e, hc, n, hd⟩ := (show ObjOk P w H h a (.tup xs) from q.ok hok)
    exact ⟨its, o, n, hv, e, hc, hd⟩
  · exact ⟨its.toList, o, n, hv, KX _ _ e, hc, by simp [hd]⟩
mutual
theorem Dw.reads (hok : HOk P w H h) (KX : K.In h) : ∀ (d : WData) (v : V) (u : Value), Dw K H v d → RelV v u → ∃ as, ReadsW R cl h u d as
  | .none, _, _, x, r => by
    cases x
    cases r
    exact ⟨_, ReadsW.none⟩
  | .bool b, _, _, x, r => by
    cases x
    cases r
    exact ⟨_, ReadsW.bool b⟩
  | .int i, _, _, x, r => by
    cases x
    obtain ⟨t, rfl⟩ := r
    exact ⟨_, ReadsW.int i t⟩
  | .str s, _, _, x, r => by
    cases x
    obtain ⟨t, rfl⟩ := r
    exact ⟨_, ReadsW.str s t⟩
  | .bytes b, _, _, x, r => by
    cases x
    obtain ⟨t, rfl⟩ := r
    exact ⟨_, ReadsW.bytes _ t⟩
  | .list ds, _, _, x, r => by
    cases x with
    | lst hs ha =>
      cases r
      obtain ⟨its, o, n, rv, ho, hc, hd⟩ := sqL_at hok KX hs
      obtain ⟨as, hr⟩ := Dw.readsAll hok KX ds _ its ha rv
      exact ⟨_, ReadsW.list ho hc hd hr⟩
  | .tuple ds, _, _, x, r => by
    cases x with
    | tup hs ha =>
      cases r
      obtain ⟨its, o, n, rv, ho, hc, hd⟩ := sqT_at hok KX hs
      obtain ⟨as, hr⟩ := Dw.readsAll hok KX ds _ its ha rv
      exact ⟨_, ReadsW.tuple ho hc hd hr⟩
  | .float _, _, _, x, _ => by cases x
  | .dict _, _, _, x, _ => by cases x
  | .bytearray _, _, _, x, _ => by cases x
  | .set _, _, _, x, _ => by cases x
  | .frozenset _, _, _, x, _ => by cases x
  | .obj _ _, _, _, x, _ => by cases x
theorem Dw.readsAll (hok : HOk P w H h) (KX : K.In h) : ∀ (ds : List WData) (vs : List V) (us : List Value), DwAll K H vs ds → Vals vs us → ∃ as, ReadsAllW R cl h us ds as
  | [], _, _, x, r => by
    cases x
    cases r
    exact ⟨_, ReadsAllW.nil⟩
  | d :: ds, _, _, x, r => by
    cases x with
    | cons h1 h2 =>
      cases r with
      | cons r1 r2 =>
        obtain ⟨as, q1⟩ := Dw.reads hok KX d _ _ h1 r1
        obtain ⟨bs, q2⟩ := Dw.readsAll hok KX ds _ _ h2 r2
        exact ⟨_, ReadsAllW.cons q1 q2⟩
end
end
mutual
def plW : WData → Bool
  | .none => true
  | .bool _ => true
  | .int _ => true
  | .str _ => true
  | .bytes _ => true
  | .list xs => plWs xs
  | .tuple xs => plWs xs
  | _ => false
def plWs : List WData → Bool
  | [] => true
  | x :: r => plW x && plWs r
end
theorem plWs_map {α : Type} {f : α → WData} (h : ∀ a, plW (f a) = true) : ∀ l : List α, plWs (l.map f) = true
  | [] => rfl
  | x :: r => by
    show (plW (f x) && plWs (r.map f)) = true
    rw [h x, plWs_map h r] <;> rfl
theorem pl_enc : ∀ (c : Codec) (a : c.denote), plW (c.enc a) = true
  | .unit, _ => rfl
  | .bool, _ => rfl
  | .int _ _, _ => rfl
  | .nat _ _, _ => rfl
  | .u8, _ => rfl
  | .bytes _ _, _ => rfl
  | .text _ _ _ _, _ => rfl
  | .list _ _ c, a => plWs_map (fun x => pl_enc c x) a
  | .pair c d, a => by
    show (plW (c.enc a.1) && (plW (d.enc a.2) && true)) = true
    rw [pl_enc c a.1, pl_enc d a.2] <;> rfl
  | .triple c d e, a => by
    show (plW (c.enc a.1) && (plW (d.enc a.2.1) && (plW (e.enc a.2.2) && true))) = true
    rw [pl_enc c a.1, pl_enc d a.2.1, pl_enc e a.2.2] <;> rfl
  | .option c, none => rfl
  | .option c, some x => pl_enc c x
theorem pl_encAll : ∀ (cs : List Codec) (a : Codec.denoteAll cs), plWs (Codec.encAll cs a) = true
  | [], _ => rfl
  | c :: cs, a => by
    show (plW (c.enc a.1) && plWs (Codec.encAll cs a.2)) = true
    rw [pl_enc c a.1, pl_encAll cs a.2] <;> rfl
theorem weight_mem : ∀ {xs : List WData} {d : WData}, d ∈ xs → d.weight ≤ WData.weightAll xs
  | [], d, h => absurd h (by simp)
  | x :: r, d, h => by
    show d.weight ≤ x.weight + 1 + WData.weightAll r
    rcases List.mem_cons.mp h with e | m
    · rw [e]
      omega
    · have z := weight_mem m
      omega
def toV : Value → V
  | .none => .non
  | .bool b => .bl b
  | .int i _ => .int i
  | .str x _ => .str x
  | .bytes b _ => .byt b
  | .ref a => .ref a
  | _ => .non
def OkU (A : List Addr) : Value → Prop
  | .none => True
  | .bool _ => True
  | .int _ _ => True
  | .str _ _ => True
  | .bytes _ _ => True
  | .ref a => a ∈ A
  | _ => False
theorem OkU.mono {A B : List Addr} (h : ∀ a ∈ A, a ∈ B) : ∀ {u : Value}, OkU A u → OkU B u := fun {u} x => by
  cases u with
  | ref a => exact h a x
  | none => trivial
  | bool b => trivial
  | int i t => trivial
  | str s t => trivial
  | bytes b t => trivial
  | _ => exact False.elim x
theorem relV_toV {A : List Addr} {u : Value} (x : OkU A u) : RelV (toV u) u := by
  cases u with
  | ref a => rfl
  | none => rfl
  | bool b => rfl
  | int i t => exact ⟨t, rfl⟩
  | str s t => exact ⟨t, rfl⟩
  | bytes b t => exact ⟨t, rfl⟩
  | _ => exact False.elim x
theorem vals_toV {A : List Addr} : ∀ {vs : List Value}, (∀ u ∈ vs, OkU A u) → Vals (vs.map toV) vs
  | [], _ => .nil
  | u :: r, h => .cons (relV_toV (h u (List.mem_cons_self ..))) (vals_toV fun x hx => h x (List.mem_cons_of_mem _ hx))
def ArgOb (h : Heap) (A : List Addr) (a : Addr) : Prop := ∃ vs : List Value, vs.length ≤ sizeLine ∧ (∀ u ∈ vs, OkU A u) ∧
  (h.get? a = some { cls := .type "list", data := .seq vs.toArray } ∨ h.get? a = some { cls := .type "tuple", data := .seq vs.toArray })
theorem ArgOb.mono {h : Heap} {A B : List Addr} {a : Addr} (k : ∀ a ∈ A, a ∈ B) (x : ArgOb h A a) : ArgOb h B a := by
  obtain ⟨vs, h1, h2, h3⟩ := x
  exact ⟨vs, h1, fun u hu => (h2 u hu).mono k, h3⟩
theorem wellAll_len {P : Params} {h : Heap} : ∀ {vs : List Value} {ds : List WData}, WellAll P h vs ds → vs.length = ds.length
  | _, _, .nil => rfl
  | _, _, .cons _ b => by
    show _ + 1 = _ + 1
    rw [wellAll_len b]
theorem well_list {P : Params} {h : Heap} {v : Value} {ds : List WData} (x : Well P h v (.list ds)) : ∃ (a : Addr) (vs : List Value), v = .ref a ∧ h.get? a = some { cls := .type "list", data := .seq vs.toArray } ∧ WellAll P h vs ds := by
  cases x with
  | list ho hall => exact ⟨_, _, rfl, ho, hall⟩
theorem well_tuple {P : Params} {h : Heap} {v : Value} {ds : List WData} (x : Well P h v (.tuple ds)) : ∃ (a : Addr) (vs : List Value), v = .ref a ∧ h.get? a = some { cls := .type "tuple", data := .seq vs.toArray } ∧ WellAll P h vs ds := by
  cases x with
  | tuple ho hall => exact ⟨_, _, rfl, ho, hall⟩
theorem well_cons {P : Params} {h : Heap} {us : List Value} {d : WData} {ds : List WData} (x : WellAll P h us (d :: ds)) : ∃ (v : Value) (vs : List Value), us = v :: vs ∧ Well P h v d ∧ WellAll P h vs ds := by
  cases x with
  | cons a b => exact ⟨_, _, rfl, a, b⟩
theorem line_of {n : Nat} (h : n ≤ 1048576) : n ≤ sizeLine := Nat.le_trans h (by decide)
section
variable {P : Params} {h : Heap}
mutual
theorem area_one : ∀ (d : WData) (v : Value), Well P h v d → plW d = true → d.weight ≤ 1048576 → ∃ A : List Addr, OkU A v ∧ ∀ a ∈ A, ArgOb h A a
  | .none, _, x, _, _ => by
    cases x
    exact ⟨[], trivial, fun a m => absurd m (by simp)⟩
  | .bool b, _, x, _, _ => by
    cases x
    exact ⟨[], trivial, fun a m => absurd m (by simp)⟩
  | .int i, _, x, _, _ => by
    cases x
    exact ⟨[], trivial, fun a m => absurd m (by simp)⟩
  | .str s, _, x, _, _ => by
    cases x
    exact ⟨[], trivial, fun a m => absurd m (by simp)⟩
  | .bytes b, _, x, _, _ => by
    cases x
    exact ⟨[], trivial, fun a m => absurd m (by simp)⟩
  | .list ds, _, x, p, z => by
    obtain ⟨a, vs, rfl, ho, hall⟩ := well_list x
    have z2 : WData.weightAll ds ≤ 1048576 := z
    obtain ⟨A, h1, h2⟩ := area_all ds _ hall p fun d hd => Nat.le_trans (weight_mem hd) z2
    have k : ∀ b ∈ A, b ∈ a :: A := fun b hb => List.mem_cons_of_mem _ hb
    refine ⟨a :: A, List.mem_cons_self .., fun b hb => ?_⟩
    rcases List.mem_cons.mp hb with e | m
    · rw [e]
      exact ⟨vs, line_of (by rw [wellAll_len hall]; exact Nat.le_trans (PySem.W.length_le_weightAllW ds) z2), fun u hu => (h1 u hu).mono k, .inl ho⟩
    · exact (h2 b m).mono k
  | .tuple ds, _, x, p, z => by
    obtain ⟨a, vs, rfl, ho, hall⟩ := well_tuple x
    have z2 : WData.weightAll ds ≤ 1048576 := z
    obtain ⟨A, h1, h2⟩ := area_all ds _ hall p fun d hd => Nat.le_trans (weight_mem hd) z2
    have k : ∀ b ∈ A, b ∈ a :: A := fun b hb => List.mem_cons_of_mem _ hb
    refine ⟨a :: A, List.mem_cons_self .., fun b hb => ?_⟩
    rcases List.mem_cons.mp hb with e | m
    · rw [e]
      exact ⟨vs, line_of (by rw [wellAll_len hall]; exact Nat.le_trans (PySem.W.length_le_weightAllW ds) z2), fun u hu => (h1 u hu).mono k, .inr ho⟩
    · exact (h2 b m).mono k
  | .float _, _, _, p, _ => Bool.noConfusion (show false = true from p)
  | .dict _, _, _, p, _ => Bool.noConfusion (show false = true from p)
  | .bytearray _, _, _, p, _ => Bool.noConfusion (show false = true from p)
  | .set _, _, _, p, _ => Bool.noConfusion (show false = true from p)
  | .frozenset _, _, _, p, _ => Bool.noConfusion (show false = true from p)
  | .obj _ _, _, _, p, _ => Bool.noConfusion (show false = true from p)
theorem area_all : ∀ (ds : List WData) (vs : List Value), WellAll P h vs ds → plWs ds = true → (∀ d ∈ ds, d.weight ≤ 1048576) → ∃ A : List Addr, (∀ u ∈ vs, OkU A u) ∧ ∀ a ∈ A, ArgOb h A a
  | [], _, x, _, _ => by
    cases x
    exact ⟨[], fun u m => absurd m (by simp), fun a m => absurd m (by simp)⟩
  | d :: ds, _, x, p, z => by
    obtain ⟨v, vs, rfl, x1, x2⟩ := well_cons x
    have q : plW d = true ∧ plWs ds = true := Bool.and_eq_true_iff.mp p
    obtain ⟨A, a1, a2⟩ := area_one d v x1 q.1 (z d (List.mem_cons_self ..))
    obtain ⟨B, b1, b2⟩ := area_all ds vs x2 q.2 fun e he => z e (List.mem_cons_of_mem _ he)
    have kA : ∀ b ∈ A, b ∈ A ++ B := fun b hb => List.mem_append.mpr (.inl hb)
    have kB : ∀ b ∈ B, b ∈ A ++ B := fun b hb => List.mem_append.mpr (.inr hb)
    refine ⟨A ++ B, fun u hu => ?_, fun b hb => ?_⟩
    · rcases List.mem_cons.mp hu with e | m
      · rw [e]
        exact a1.mono kA
      · exact (b1 u m).mono kB
    · rcases List.mem_append.mp hb with m | m
      · exact (a2 b m).mono kA
      · exact (b2 b m).mono kB
end
end
def hoOf (o : Obj) : Option HO := match o.data with
  | .seq vs _ => if (o.cls == Value.type "list") = true then some (.frz o (.lst (vs.toList.map toV))) else some (.frz o (.tup (vs.toList.map toV)))
  | _ => none
def argH (K : PySem.W.Frag) (h : Heap) (A : List Addr) : Hp := fun b => if b ∈ A then (if (K.lookup b).isNone = true then (h.get? b).bind hoOf else none) else none
def OnlyF (H : Hp) : Prop := ∀ b, H b = none ∨ ∃ o u, H b = some (.frz o u)
theorem hoOf_lst (vs : List Value) : hoOf { cls := .type "list", data := .seq vs.toArray } = some (.frz { cls := .type "list", data := .seq vs.toArray } (.lst (vs.map toV))) := by
  show (if (Value.type "list" == Value.type "list") = true then some (HO.frz { cls := .type "list", data := .seq vs.toArray } (.lst (vs.toArray.toList.map toV))) else some (HO.frz { cls := .type "list", data := .seq vs.toArray } (.tup (vs.toArray.toList.map toV)))) = _
  rw [if_pos (beq_self_eq_true _)]
theorem hoOf_tup (vs : List Value) : hoOf { cls := .type "tuple", data := .seq vs.toArray } = some (.frz { cls := .type "tuple", data := .seq vs.toArray } (.tup (vs.map toV))) := by
  show (if (Value.type "tuple" == Value.type "list") = true then some (HO.frz { cls := .type "tuple", data := .seq vs.toArray } (.lst (vs.toArray.toList.map toV))) else some (HO.frz { cls := .type "tuple", data := .seq vs.toArray } (.tup (vs.toArray.toList.map toV)))) = _
  rw [if_neg (by decide)]
section
variable {P : Program} {w : World} {K : PySem.W.Frag} {h : Heap} {A : List Addr}
theorem argH_at {b : Addr} {o : Obj} (hb : b ∈ A) (hk : K.lookup b = none) (e : h.get? b = some o) : argH K h A b = hoOf o := by
  unfold argH
  rw [if_pos hb, hk, if_pos (show (none : Option Obj).isNone = true from rfl), e] <;> rfl
theorem of_argH {b : Addr} {u : HO} (q : argH K h A b = some u) : b ∈ A ∧ K.lookup b = none := by
  unfold argH at q
  by_cases hb : b ∈ A
  · rw [if_pos hb] at q
    cases hk : K.lookup b with
    | none => exact ⟨hb, rfl⟩
    | some o =>
      rw [hk, if_neg (by simp)] at q
      cases q
  · rw [if_neg hb] at q
    cases q
theorem argH_is (ar : ∀ a ∈ A, ArgOb h A a) {b : Addr} {u : HO} (q : argH K h A b = some u) : K.lookup b = none ∧ ∃ vs : List Value, vs.length ≤ sizeLine ∧ (∀ u ∈ vs, OkU A u) ∧
    ((h.get? b = some { cls := .type "list", data := .seq vs.toArray } ∧ u = .frz { cls := .type "list", data := .seq vs.toArray } (.lst (vs.map toV))) ∨
     (h.get? b = some { cls := .type "tuple", data := .seq vs.toArray } ∧ u = .frz { cls := .type "tuple", data := .seq vs.toArray } (.tup (vs.map toV)))) := by
  obtain ⟨hb, hk⟩ := of_argH q
  obtain ⟨vs, h1, h2, h3⟩ := ar b hb
  refine ⟨hk, vs, h1, h2, ?_⟩
  rcases h3 with e | e
  · rw [argH_at hb hk e, hoOf_lst] at q
    exact .inl ⟨e, (Option.some.inj q).symm⟩
  · rw [argH_at hb hk e, hoOf_tup] at q
    exact .inr ⟨e, (Option.some.inj q).symm⟩
theorem argH_only (ar : ∀ a ∈ A, ArgOb h A a) : OnlyF (argH K h A) := fun b => by
  cases q : argH K h A b with
  | none => exact .inl rfl
  | some u =>
    obtain ⟨_, vs, _, _, ⟨_, e⟩ | ⟨_, e⟩⟩ := argH_is ar q
    · exact .inr ⟨_, _, by rw [e]⟩
    · exact .inr ⟨_, _, by rw [e]⟩
theorem argH_ok (ar : ∀ a ∈ A, ArgOb h A a) : HOk P w (argH K h A) h := fun b u q => by
  obtain ⟨_, vs, h1, h2, ⟨e, rfl⟩ | ⟨e, rfl⟩⟩ := argH_is ar q
  · exact ⟨e, by rw [List.length_map]; exact h1, vs, _, vals_toV h2, e⟩
  · exact ⟨e, by rw [List.length_map]; exact h1, vs, vals_toV h2, _, e, rfl, _, rfl⟩
theorem seq_inj {c c' : Value} {vs us : List Value} (e : (some { cls := c, data := .seq vs.toArray } : Option Obj) = some { cls := c', data := .seq us.toArray }) : c = c' ∧ vs = us := by
  have e1 := Option.some.inj e
  have e2 : c = c' := congrArg Obj.cls e1
  have e3 : Data.seq vs.toArray = Data.seq us.toArray := congrArg Obj.data e1
  injection e3 with e4
  refine ⟨e2, ?_⟩
  have e5 := congrArg Array.toList e4
  simpa using e5
theorem argL (KX : K.In h) (ar : ∀ a ∈ A, ArgOb h A a) {a : Addr} {vs : List Value} (ha : a ∈ A) (e : h.get? a = some { cls := .type "list", data := .seq vs.toArray }) : (∀ u ∈ vs, OkU A u) ∧ SqL K (argH K h A) a (vs.map toV) := by
  obtain ⟨us, h1, h2, h3⟩ := ar a ha
  have hu : us = vs := by
    rcases h3 with q | q
    · rw [e] at q
      exact (seq_inj q).2.symm
    · rw [e] at q
      exact absurd (Value.type.inj (seq_inj q).1) (by decide)
  subst hu
  refine ⟨h2, ?_⟩
  cases hk : K.lookup a with
  | none => exact .inl (.inr ⟨_, by rw [argH_at ha hk e, hoOf_lst]⟩)
  | some o =>
    have e2 := KX a o hk
    rw [e] at e2
    obtain rfl := Option.some.inj e2
    exact .inr ⟨_, us.toArray, _, hk, rfl, rfl, rfl, by rw [List.size_toArray]; exact h1, by simpa using vals_toV h2⟩
theorem argT (KX : K.In h) (ar : ∀ a ∈ A, ArgOb h A a) {a : Addr} {vs : List Value} (ha : a ∈ A) (e : h.get? a = some { cls := .type "tuple", data := .seq vs.toArray }) : (∀ u ∈ vs, OkU A u) ∧ SqT K (argH K h A) a (vs.map toV) := by
  obtain ⟨us, h1, h2, h3⟩ := ar a ha
  have hu : us = vs := by
    rcases h3 with q | q
    · rw [e] at q
      exact absurd (Value.type.inj (seq_inj q).1) (by decide)
    · rw [e] at q
      exact (seq_inj q).2.symm
  subst hu
  refine ⟨h2, ?_⟩
  cases hk : K.lookup a with
  | none => exact .inl (.inr ⟨_, by rw [argH_at ha hk e, hoOf_tup]⟩)
  | some o =>
    have e2 := KX a o hk
    rw [e] at e2
    obtain rfl := Option.some.inj e2
    exact .inr ⟨_, us.toArray, _, hk, rfl, rfl, by rw [List.size_toArray]; exact h1, by simpa using vals_toV h2⟩
mutual
theorem dw_one {Pm : Params} (KX : K.In h) (ar : ∀ a ∈ A, ArgOb h A a) : ∀ (d : WData) (v : Value), Well Pm h v d → plW d = true → OkU A v → Dw K (argH K h A) (toV v) d
  | .none, _, x, _, _ => by
    cases x
    exact .non
  | .bool b, _, x, _, _ => by
    cases x
    exact .bl b
  | .int i, _, x, _, _ => by
    cases x
    exact .int i
  | .str s, _, x, _, _ => by
    cases x
    exact .str s
  | .bytes b, _, x, _, _ => by
    cases x
    have z := Dw.byt (K := K) (H := argH K h A) b.toArray
    exact z
  | .list ds, _, x, p, hu => by
    obtain ⟨a, vs, rfl, ho, hall⟩ := well_list x
    obtain ⟨h2, hs⟩ := argL KX ar hu ho
    exact .lst hs (dw_all KX ar ds _ hall p h2)
  | .tuple ds, _, x, p, hu => by
    obtain ⟨a, vs, rfl, ho, hall⟩ := well_tuple x
    obtain ⟨h2, hs⟩ := argT KX ar hu ho
    exact .tup hs (dw_all KX ar ds _ hall p h2)
  | .float _, _, _, p, _ => Bool.noConfusion (show false = true from p)
  | .dict _, _, _, p, _ => Bool.noConfusion (show false = true from p)
  | .bytearray _, _, _, p, _ => Bool.noConfusion (show false = true from p)
  | .set _, _, _, p, _ => Bool.noConfusion (show false = true from p)
  | .frozenset _, _, _, p, _ => Bool.noConfusion (show false = true from p)
  | .obj _ _, _, _, p, _ => Bool.noConfusion (show false = true from p)
theorem dw_all {Pm : Params} (KX : K.In h) (ar : ∀ a ∈ A, ArgOb h A a) : ∀ (ds : List WData) (vs : List Value), WellAll Pm h vs ds → plWs ds = true → (∀ u ∈ vs, OkU A u) → DwAll K (argH K h A) (vs.map toV) ds
  | [], _, x, _, _ => by
    cases x
    exact .nil
  | d :: ds, _, x, p, hu => by
    obtain ⟨v, vs, rfl, x1, x2⟩ := well_cons x
    have q : plW d = true ∧ plWs ds = true := Bool.and_eq_true_iff.mp p
    exact .cons (dw_one KX ar d v x1 q.1 (hu _ (List.mem_cons_self ..))) (dw_all KX ar ds vs x2 q.2 fun u m => hu u (List.mem_cons_of_mem _ m))
end
end
theorem spec_call {P : Program} {w : World} {K : PySem.W.Frag} {mg mb : Str → Option Value} {CX : CXT} {k : Nat} {fa : Addr} {fd : FuncData} {ps : List Str} {sp : Sp} {s₁ : Shared} {vals : List Value} {ds : List WData} {R : PySem.W.WRecords} {cl : Str → Option Addr} {d0 : WData}
    (KX : K.In s₁.heap) (hns : s₁.heap.Ns mainGlobals mg) (hb : s₁.heap.Ns builtinsNs mb) (hbb : ∀ x : Str, x ≠ "__name__" → mb x = bootBuiltins x) (hlim : s₁.heap.NoLimit) (hg : s₁.gens = #[])
    (hwl : WellAll w.params s₁.heap vals ds) (hpl : plWs ds = true) (hwt : ∀ d ∈ ds, d.weight ≤ 1048576) (hr : Room k callerA)
    (F : ∀ base : Heap, K.In base → base.Ns mainGlobals mg → FnOk P w K mg base CX k fa fd ps sp) (hbind : ∀ (s : Shared) (us : List Value), us.length = ps.length → BindsTo s fd ⟨us, []⟩ (ps.zip us)) (hlen : ds.length = ps.length)
    (hsp : ∀ (H : Hp) (xs : List V), OnlyF H → DwAll K H xs ds → sp xs H (fun v H' => Dw K H' v d0) fun _ _ _ => False)
    (hCX : ∀ H e s', CX [] H s₁ (fun _ _ _ => False) e s' → False) :
    codeAny (model P w) callerA (.call (.ref fa) ⟨vals, []⟩) (fun r s' => ∃ u as, r = .ok (.ret u) ∧ ReadsW R cl s'.heap u d0 as ∧ OldK s₁.heap s'.heap ∧ s'.os = s₁.os ∧ AllBare s'.gens) s₁ := by
  obtain ⟨A, ho, ar⟩ := area_all ds vals hwl hpl hwt
  have hO : OnlyF (argH K s₁.heap A) := argH_only ar
  have hok : HOk P w (argH K s₁.heap A) s₁.heap := argH_ok ar
  have hS := dw_all KX ar ds vals hwl hpl ho
  have hV := vals_toV ho
  have hK : ∀ b u, argH K s₁.heap A b = some u → K.lookup b = none := fun b u q => (argH_is ar q).1
  have noA : ∀ {b : Addr} {o : Obj} {es : Array DictEntry} {ep : Nat}, s₁.heap.get? b = some o → o.data = .dict es ep → argH K s₁.heap A b = none := fun {b o es ep} e d => by
    cases q : argH K s₁.heap A b with
    | none => rfl
    | some u =>
      obtain ⟨_, vs, _, _, ⟨e2, _⟩ | ⟨e2, _⟩⟩ := argH_is ar q
      · rw [e2] at e
        cases e
        have d' : Data.seq vs.toArray _ = Data.dict es ep := d
        cases d'
      · rw [e2] at e
        cases e
        have d' : Data.seq vs.toArray _ = Data.dict es ep := d
        cases d'
  generalize argH K s₁.heap A = H at hO hok hS hK noA
  have base_of : ∀ {b : Addr} {o : Obj}, s₁.heap.get? b = some o → H b = none → (hidT s₁.heap H).get? b = some o := fun e n => hidT_get e n
  have nsK : ∀ {b : Addr} {m : Str → Option Value}, s₁.heap.Ns b m → (hidT s₁.heap H).Ns b m := fun {b m} ⟨o, es, ep, e, d, r⟩ => ⟨o, es, ep, base_of e (noA e d), d, r⟩
  have nK : ∀ b o, K.lookup b = some o → H b = none := fun b o e => by
    cases q : H b with
    | none => rfl
    | some u =>
      rw [hK b u q] at e
      cases e
  have hKb : K.In (hidT s₁.heap H) := fun b o e => base_of (KX b o e) (nK b o e)
  have hM : Mod K mg (hidT s₁.heap H) := ⟨hKb, nsK hns, ⟨mb, nsK hb, hbb⟩, let ⟨mc, h1, h2⟩ := hlim; ⟨mc, nsK h1, h2⟩⟩
  have e0 : Env0 P w K mg (hidT s₁.heap H) callerA [] s₁ H := ⟨rfl, hM, fun b o e => of_hidT e, Nat.le_of_eq (hidT_size _ _), trivial, fun b hb => absurd (show b ∈ ([] : List Addr) from hb) (by simp), hok, .of_eq hg⟩
  have hl : vals.length = ps.length := by rw [wellAll_len hwl]; exact hlen
  refine codeAny_mono ((F _ hKb (nsK hns)).run callerA [] s₁ H ⟨vals, []⟩ vals (vals.map toV) _ _ hr e0 (hbind s₁ vals hl) hV (hsp H _ hO hS)) fun r s' x => ?_
  cases r with
  | error e => exact (hCX H e s' x).elim
  | ok fl =>
    cases fl with
    | next => exact False.elim x
    | brk => exact False.elim x
    | cont => exact False.elim x
    | ret u =>
      obtain ⟨v, H', os, bare, un, hok', r', q⟩ := x
      have kept : ∀ b o, s₁.heap.get? b = some o → s'.heap.get? b = some o := fun b o e => by
        cases q2 : H b with
        | none => exact un.keep b o e q2 (by intro z; exact absurd (show b ∈ ([] : List Addr) from z) (by simp)) (by simp)
        | some u2 =>
          rcases hO b with z | ⟨ob, u3, z⟩
          · rw [q2] at z
            cases z
          · have z2 := un.frzs b ob _ z
            obtain ⟨e1, _⟩ := hok b _ z
            obtain ⟨e2, _⟩ := hok' b _ z2
            rw [e] at e1
            cases e1
            exact e2
      have KX' : K.In s'.heap := fun b o e => kept b o (KX b o e)
      obtain ⟨as, hrd⟩ := Dw.reads (R := R) (cl := cl) hok' KX' d0 v u q r'
      exact ⟨u, as, rfl, hrd, OldK.of_keep kept, os, bare⟩
theorem layable_weight {ds : List WData} (h : WData.layableAll ds = true) : ∀ d ∈ ds, d.weight ≤ 1048576 := fun d hd =>
  (PySem.W.layableW_iff.mp (List.all_eq_true.mp h d hd)).2.2
theorem encAll_len : ∀ (cs : List Codec) (a : Codec.denoteAll cs), (Codec.encAll cs a).length = cs.length
  | [], _ => rfl
  | c :: cs, a => by
    show (Codec.encAll cs a.2).length + 1 = cs.length + 1
    rw [encAll_len cs a.2]
theorem walk_spec {r : OpenSpec} {k : Nat} {q : Program} {loose : List Str} {XP : (Str → Option Value) → Heap → Prop} {YP : World → Heap → Prop} {d : DefRec} {K : Params → PySem.W.Frag} {CX : World → CXT} {ps : List Str} {sp : World → Sp}
    (hwell : r.wellSaid = true) (hdf : d.params.defaults = []) (hlen : r.args.length = ps.length) (hr : Room k callerA)
    (hY : ∀ (w : World) (h : Heap), YP w h → (K w.params).In h)
    (F : ∀ (w : World) (mg : Str → Option Value) (fa : Addr) (h : Heap), YP w h → (K w.params).In h → h.Ns mainGlobals mg → mg d.name = some (.ref fa) →
      ∃ fd : FuncData, (∀ (s : Shared) (us : List Value), us.length = ps.length → BindsTo s fd ⟨us, []⟩ (ps.zip us)) ∧
        ∀ base : Heap, (K w.params).In base → base.Ns mainGlobals mg → FnOk r.prog w (K w.params) mg base (CX w) k fa fd ps (sp w))
    (hsp : ∀ (w : World) (H : Hp) (xs : List V) (a : Codec.denoteAll r.args), OnlyF H → Codec.withinAll r.args a = true → Codec.app r.args r.asked a = true → DwAll (K w.params) H xs (Codec.encAll r.args a) →
      sp w xs H (fun v H' => Dw (K w.params) H' v (r.ret.enc (Codec.app r.args r.f a))) fun _ _ _ => False)
    (hCX : ∀ (w : World) (H : Hp) (s : Shared) (e : Value) (s' : Shared), CX w [] H s (fun _ _ _ => False) e s' → False) :
    PySem.W.WalkOS q loose XP YP r d [] (fun f vs => PySem.call f vs) := by
  intro w s_0 s₁ mg mb G Y fa o pm cd doc dV kV ho hd hcd hD hmg hg args vals as hpre hlay hrd hwl hlo
  obtain ⟨a, e1, e2⟩ := PySem.W.os_pre_some hpre
  obtain ⟨e3, hwi⟩ := Codec.encAll_of_decAll r.args args a e1
  subst e3
  have KX := hY w _ Y
  obtain ⟨fd, hb, hF⟩ := F w mg fa _ Y KX G.T.g hmg
  refine PySem.W.enter_call (codeAny_mono (spec_call (R := []) (cl := classAt s_0.heap) (d0 := r.ret.enc (Codec.app r.args r.f a)) KX G.T.g G.T.b G.T.builtins G.T.nolimit hg hwl (pl_encAll _ _) (layable_weight hlay) hr hF hb (by rw [encAll_len]; exact hlen)
    (fun H xs hO hS => hsp w H xs a hO hwi e2 hS) fun H e s' => hCX w H s₁ e s') fun r' s' hq => ?_)
  obtain ⟨u, as', rfl, h1, h2, h3, h4⟩ := hq
  exact ⟨.inl ⟨u, _, as', rfl, fun _ => rfl, h1, (OpenSpec.post_iff hwell hwi _ _).mpr rfl, fun z => Bool.noConfusion (show false = true from z)⟩, h2, h3, h4⟩
theorem walk_specK {r : OpenSpec} {k : Nat} {q : Program} {loose : List Str} {XP : (Str → Option Value) → Heap → Prop} {YP : World → Heap → Prop} {d : DefRec} {K : Params → PySem.W.Frag} {CX : CXT} {ps : List Str} {sp : PySem.W.Frag → Sp}
    (hwell : r.wellSaid = true) (hdf : d.params.defaults = []) (hlen : r.args.length = ps.length) (hr : Room k callerA)
    (hY : ∀ (w : World) (h : Heap), YP w h → (K w.params).In h)
    (F : ∀ (w : World) (mg : Str → Option Value) (fa : Addr) (h : Heap), YP w h → (K w.params).In h → h.Ns mainGlobals mg → mg d.name = some (.ref fa) →
      ∃ fd : FuncData, (∀ (s : Shared) (us : List Value), us.length = ps.length → BindsTo s fd ⟨us, []⟩ (ps.zip us)) ∧
        ∀ base : Heap, (K w.params).In base → base.Ns mainGlobals mg → FnOk r.prog w (K w.params) mg base CX k fa fd ps (sp (K w.params)))
    (hsp : ∀ (K : PySem.W.Frag) (H : Hp) (xs : List V) (a : Codec.denoteAll r.args), OnlyF H → Codec.withinAll r.args a = true → Codec.app r.args r.asked a = true → DwAll K H xs (Codec.encAll r.args a) →
      sp K xs H (fun v H' => Dw K H' v (r.ret.enc (Codec.app r.args r.f a))) fun _ _ _ => False)
    (hCX : ∀ (H : Hp) (s : Shared) (e : Value) (s' : Shared), CX [] H s (fun _ _ _ => False) e s' → False) :
    PySem.W.WalkOS q loose XP YP r d [] (fun f vs => PySem.call f vs) :=
  walk_spec (K := K) (CX := fun _ => CX) (sp := fun w => sp (K w.params)) hwell hdf hlen hr hY F (fun w H xs a h1 h2 h3 h4 => hsp (K w.params) H xs a h1 h2 h3 h4) fun _ H s e s' => hCX H s e s'
end L2
namespace Mx
open PySem
open Sem (wp)
end Mx
namespace L2
open PySem PySem.Spec PyProof.Rows
section
variable {X : Cx}
def CShlB (i j : Int) : Prop := 0 ≤ j ∧ (Builtin.Int.intBits i : Int) + j ≤ 2 ^ 27
theorem op_shlB : OpR X (binaryOp .LShift) (rI CShlB fun i j => .int (i * 2 ^ j.toNat)) := opI fun _ _ _ _ _ _ _ hc q => PyProof.Rows.lshift_int hc.1 hc.2 q
end
end L2
namespace L2
open PySem PySem.Spec PyProof.Rows
theorem objOk_there {P : Program} {w : World} {H : Hp} {h : Heap} {a : Addr} {o : HO} (x : ObjOk P w H h a o) : ∃ ob, h.get? a = some ob := by
  cases o with
  | lst xs => obtain ⟨_, _, _, _, e⟩ := x; exact ⟨_, e⟩
  | tup xs => obtain ⟨_, _, _, ob, e, _⟩ := x; exact ⟨ob, e⟩
  | dK kvs => obtain ⟨_, _, _, _, o, _, _, e, _⟩ := x; exact ⟨o, e⟩
  | dT kvs => obtain ⟨_, _, _, _, o, _, _, e, _⟩ := x; exact ⟨o, e⟩
  | set S n => obtain ⟨o, _, _, _, e, _⟩ := x; exact ⟨o, e⟩
  | ins C dx fs => obtain ⟨_, _, _, e, _⟩ := x; exact ⟨_, e⟩
  | own y => exact x
  | xd fs => obtain ⟨_, ⟨o, _, _, e, _⟩, _⟩ := x; exact ⟨o, e⟩
  | rng lo hi => obtain ⟨_, _, _, e⟩ := x; exact ⟨_, e⟩
  | frz ob u => obtain ⟨e, _⟩ := x; exact ⟨_, e⟩
  | tbl ps => exact ⟨_, x⟩
  | met f y => exact ⟨_, x⟩
  | ext φ => obtain ⟨_, e, _⟩ := x; exact e
theorem hok_none {P : Program} {w : World} {H : Hp} {h : Heap} (x : HOk P w H h) {a : Addr} (e : h.get? a = none) : H a = none := by
  cases q : H a with
  | none => rfl
  | some o =>
    obtain ⟨ob, z⟩ := objOk_there (x a o q)
    rw [e] at z; cases z
inductive Chn (h : Heap) (H : Hp) (av : List Addr) : Nat → Value → Prop
  | nil : Chn h H av 0 .none
  | cons {n : Nat} {a : Addr} {o : Obj} {vs : Array Value} {c : Value} : h.get? a = some o → o.data = .fields vs → vs[2]? = some c → H a = none → a ∉ av → Chn h H av n c → Chn h H av (n + 1) (.ref a)
theorem Chn.move {h h' : Heap} {H H' : Hp} {av av' : List Addr} {n : Nat} {c : Value} (x : Chn h H av n c) (k : ∀ a o vs, h.get? a = some o → o.data = .fields vs → H a = none → a ∉ av → h'.get? a = some o ∧ H' a = none ∧ a ∉ av') : Chn h' H' av' n c := by
  induction x with
  | nil => exact .nil
  | cons h1 h2 h3 h4 h5 _ ih =>
    obtain ⟨k1, k2, k3⟩ := k _ _ _ h1 h2 h4 h5
    exact .cons k1 h2 h3 k2 k3 ih
def TrV (h base : Heap) (e : Addr) (cls c fl : Value) : Prop :=
  ∃ oe vs T oT ts, h.get? e = some oe ∧ (oe.cls = cls ∧ vs[2]? = some c) ∧ oe.data = .fields vs ∧ vs[1]? = some (.ref T) ∧ base.get? T = none ∧ T ≠ e ∧ h.get? T = some oT ∧ oT.data = .fields ts ∧ ts[3]? = some fl
def OnV (base : Heap) (l : List Env) (e : Addr) (cls c fl : Value) (h : Heap) : Prop := base.StaysIn h ∧ base.get? e = none ∧ h.FunFrames base l ∧ TrV h base e cls c fl
section
variable {M : Model} {A : Around} {E : Value → Shared → Prop} {s : Shared}
theorem entryV {base : Heap} {env : Env} {outer : List Env} {L e : Addr} {oe : Obj} {vs : Array Value} {hd c : Value} {nx : Bool} {Q : Unit → Shared → Prop} (hfr : A.frames = some (env :: outer)) (hl : s.heap.FunFrames base (env :: outer)) (hf : env.frame = some L)
    (ge : s.heap.get? e = some oe) (st : base.StaysIn s.heap) (ne : base.get? e = none) (de : oe.data = .fields vs) (z1 : 1 < vs.size) (h2 : vs[2]? = some c) (k : ∀ h', OnV base (env :: outer) e oe.cls c (rawInt L) h' → s.heap.UpToSlots h' → Q () { s with heap := h' }) :
    wpAny M A (do let fo ← frameOf env; let pc ← entryPlaceOf L nx; let tb ← EntryCells.newEntry hd fo .none (rawInt L) .none pc; setField (.ref e) 1 tb) Q E s := by
  have nfr : e ∉ (env :: outer).filterMap (·.frame) := fun m => by
    obtain ⟨_, q, hq, nf⟩ := hl.mem m
    rw [ge] at hq; cases hq; exact nf vs de
  refine wpAny_bind (wpAny_frameOf_fun hfr hl hf fun g ⟨_, sg, tg⟩ => wpAny_bind (wpAny_entryPlaceOf fun pc hp => ?_))
  have e1 : g.get? e = some oe := (sg e nfr).trans ge
  have b1 : base.StaysIn g := fun b q hb => (sg b fun m => by rw [(hl.mem m).1] at hb; cases hb).trans (st b q hb)
  have Te : g.objs.size ≠ e := Nat.ne_of_gt (Heap.lt_size e1)
  unfold EntryCells.newEntry newFields
  refine wpAny_bind (wpAny_newObj_type ?_ (hp.sizeOk5 _ _ _ _ _))
  generalize hts : ([hd, Value.ref L, .none, rawInt L, .none] ++ (if pc.isEmpty then List.replicate 6 Value.none else pc)).toArray = ts
  have t3 : ts[3]? = some (rawInt L) := by rw [← hts]; simp
  have e2 : (g.push { cls := .type "traceback", data := .fields ts }).get? e = some oe := Heap.get?_push_of_some _ e1
  refine wpAny_setField e2 de z1 (k _ ?_ ?_)
  · have d3 := Obj.data_mapFields de (·.setIfInBounds 1 (Value.ref g.objs.size))
    refine ⟨fun b q hb => ?_, ne, hl.of_keeps fun b q hb nf => ?_, _, _, g.objs.size, _, ts, Heap.get?_update_self _ e2 (Obj.isFreed_of_fields d3), ⟨Obj.cls_mapFields _ _, ?_⟩, d3, by simp [z1], b1.fresh, Te, (Heap.get?_update_other _ _ (Ne.symm Te)).trans (Heap.get?_push_size _ rfl), rfl, t3⟩
    · rw [Heap.get?_update_other _ _ (fun z => by rw [← z, ne] at hb; cases hb)]
      exact Heap.get?_push_of_some _ (b1 b q hb)
    · obtain ⟨sl, hs⟩ := tg b q hb
      refine ⟨{ q with slots := sl }, ?_, rfl⟩
      rw [Heap.get?_update_other _ _ (fun z => by rw [← z, ge] at hb; cases hb; exact nf vs de)]
      exact Heap.get?_push_of_some _ hs
    · rw [Array.getElem?_setIfInBounds_ne (by decide)]; exact h2
  · intro b q hb nf
    obtain ⟨sl, hs⟩ := tg b q hb
    refine ⟨sl, ?_⟩
    rw [Heap.get?_update_other _ _ (fun z => by rw [← z, ge] at hb; cases hb; exact nf vs de)]
    exact Heap.get?_push_of_some _ hs
theorem note_first {base : Heap} {env : Env} {outer : List Env} {L e : Addr} {oe : Obj} {vs : Array Value} {c : Value} {Q : Unit → Shared → Prop} (hfr : A.frames = some (env :: outer)) (hf : env.frame = some L) (hl : s.heap.FunFrames base (env :: outer)) (ge : s.heap.get? e = some oe) (st : base.StaysIn s.heap) (ne : base.get? e = none) (de : oe.data = .fields vs) (h1 : vs[1]? = some .none) (h2 : vs[2]? = some c)
    (k : ∀ h', OnV base (env :: outer) e oe.cls c (rawInt L) h' → s.heap.UpToSlots h' → Q () { s with heap := h' }) : wpAny M A (noteFrame (.ref e) env) Q E s := by
  unfold noteFrame
  simp only [hf]
  refine wpAny_bind (wpAny_field ge de h1 ?_)
  rw [if_neg (by decide)]
  exact entryV hfr hl hf ge st ne de (Array.getElem?_eq_some_iff.mp h1).1 h2 k
theorem note_any {base : Heap} {env : Env} {outer : List Env} {L e : Addr} {cls c fl : Value} {Q : Unit → Shared → Prop} (hfr : A.frames = some (env :: outer)) (hf : env.frame = some L) (h : OnV base (env :: outer) e cls c fl s.heap)
    (k : ∀ h', OnV base (env :: outer) e cls c (rawInt L) h' → s.heap.UpToSlots h' → Q () { s with heap := h' }) : wpAny M A (noteFrame (.ref e) env) Q E s := by
  obtain ⟨st, ne, hl, oe, vs, T, oT, ts, ge, ⟨hcls, h2⟩, de, h1, nT, Te, gT, dT, h3⟩ := id h
  subst hcls
  unfold noteFrame
  simp only [hf]
  refine wpAny_bind (wpAny_field ge de h1 ?_)
  rw [if_pos (by simp)]
  refine wpAny_bind (wpAny_field gT dT h3 ?_)
  by_cases q : fl = rawInt L
  · subst q
    rw [if_pos (by simp)]
    exact wpAny_pure (k s.heap h (.refl _))
  · rw [if_neg (by simpa using q)]
    refine wpAny_bind (wpAny_setField gT dT (Array.getElem?_eq_some_iff.mp h3).1 ?_)
    have oth : ∀ b, b ≠ T → (s.heap.update T (Obj.mapFields (·.setIfInBounds 3 Value.none))).get? b = s.heap.get? b := fun b hb => Heap.get?_update_other _ _ (Ne.symm hb)
    have nrec : ∀ b o, s.heap.get? b = some o → (∀ vs, o.data ≠ .fields vs) → b ≠ T := fun b o hb hnf z => by
      rw [z, gT] at hb; cases hb; exact hnf ts dT
    refine entryV hfr (hl.of_keeps fun b o hb hnf => ⟨o, (oth b (nrec b o hb hnf)).trans hb, rfl⟩) hf ((oth e (Ne.symm Te)).trans ge)
      (fun b o hbo => (oth b fun z => by rw [z, nT] at hbo; cases hbo).trans (st b o hbo)) ne de (Array.getElem?_eq_some_iff.mp h1).1 h2 fun h' x up => k h' x fun b o hb hnf => up b o ((oth b (nrec b o hb hnf)).trans hb) hnf
theorem flight_set {base : Heap} {l : List Env} {e : Addr} {cls c fl : Value} {fo : Option Addr} {Q : Unit → Shared → Prop} (h : OnV base l e cls c fl s.heap) (k : ∀ h', OnV base l e cls c (fo.elim Value.none fun f => rawInt f) h' → s.heap.UpToSlots h' → Q () { s with heap := h' }) : wpAny M A (setFlight (.ref e) fo) Q E s := by
  obtain ⟨st, ne, hl, oe, vs, T, oT, ts, ge, hc, de, h1, nT, Te, gT, dT, h3⟩ := h
  have z3 : 3 < ts.size := (Array.getElem?_eq_some_iff.mp h3).1
  have oth : ∀ b, b ≠ T → (s.heap.update T (Obj.mapFields (·.setIfInBounds 3 (fo.elim Value.none fun f => rawInt f)))).get? b = s.heap.get? b := fun b hb => Heap.get?_update_other _ _ (Ne.symm hb)
  have nrec : ∀ b o, s.heap.get? b = some o → (∀ vs, o.data ≠ .fields vs) → b ≠ T := fun b o hb hnf z => by
    rw [z, gT] at hb; cases hb; exact hnf ts dT
  unfold setFlight
  refine wpAny_bind (wpAny_field ge de h1 ?_)
  rw [if_pos (by simp)]
  refine wpAny_setField gT dT z3 (k _ ⟨fun b o hb => (oth b fun z => by rw [z, nT] at hb; cases hb).trans (st b o hb), ne, hl.of_keeps fun b o hb nf => ⟨o, (oth b (nrec b o hb nf)).trans hb, rfl⟩, oe, vs, T, _, _, (oth e (Ne.symm Te)).trans ge, hc, de, h1, nT, Te, Heap.get?_update_self _ gT (Obj.isFreed_of_fields (Obj.data_mapFields dT _)), Obj.data_mapFields dT _, by simp [z3]⟩ fun b o hb nf => ⟨o.slots, (oth b (nrec b o hb nf)).trans hb⟩)
theorem leave_any {base : Heap} {env : Env} {outer : List Env} {L e : Addr} {cls c fl : Value} {Q : Unit → Shared → Prop} (hfr : A.frames = some (env :: outer)) (hf : env.frame = some L) (h : OnV base (env :: outer) e cls c fl s.heap)
    (k : ∀ h', OnV base outer e cls c .none h' → s.heap.UpToSlots h' → Q () { s with heap := h' }) : wpAny M A (leaving env (.ref e)) Q E s := by
  unfold leaving
  refine wpAny_bind (note_any hfr hf h fun h1 hh up => ?_)
  refine flight_set (s := { s with heap := h1 }) hh fun h2 fl2 up2 => ?_
  obtain ⟨k1, k2, ⟨_, _, k3⟩, k4⟩ := fl2
  exact k h2 ⟨k1, k2, k3, k4⟩ (up.trans up2)
end
def TrF (h : Heap) (x T : Addr) (cls c fl : Value) : Prop := ∃ oe vs oT ts, h.get? x = some oe ∧ (oe.cls = cls ∧ vs[2]? = some c) ∧ oe.data = .fields vs ∧ vs[1]? = some (.ref T) ∧ T ≠ x ∧ h.get? T = some oT ∧ oT.data = .fields ts ∧ ts[3]? = some fl
def CX1 (P : Program) (w : World) : CXT := fun outer H s E e s' => ∃ (x T : Addr) (cls c : Value) (n : Nat) (H' : Hp), e = .ref x ∧ s'.os = s.os ∧ AllBare s'.gens ∧ Un (frs outer) [] H H' s.heap s'.heap ∧ HOk P w H' s'.heap ∧
  (s.heap.get? x = none ∧ s.heap.get? T = none ∧ H' x = none ∧ H' T = none) ∧ (TrF s'.heap x T cls c .none ∧ Chn s'.heap H' [x, T] n c) ∧ E cls none H'
section
variable {X : Cx} {pins : List (Addr × Obj)} {σ : St} {H : Hp} {s : Shared} {h' : Heap}
theorem Inv.none0 (I : Inv X pins σ H s) (hex : X.ex = []) {b : Addr} (e : s.heap.get? b = none) : X.s_0.heap.get? b = none := by
  cases q : X.s_0.heap.get? b with
  | none => rfl
  | some o =>
    obtain ⟨o', z⟩ := I.base.there b o q (by rw [hex]; simp)
    rw [e] at z; cases z
theorem Inv.apart (I : Inv X pins σ H s) (hex : X.ex = []) {b : Addr} (e : s.heap.get? b = none) : X.s_0.heap.get? b = none ∧ b ≠ X.env.locals ∧ (∀ x c, X.env.cells.lookup x = some c → c ≠ b) ∧ ∀ p ∈ X.pn ++ pins, p.1 ≠ b := by
  refine ⟨I.none0 hex e, fun z => ?_, fun x c q z => ?_, fun p hp z => ?_⟩
  · obtain ⟨m, ⟨o, _, _, ho, _⟩, _⟩ := I.loc
    rw [← z, e] at ho; cases ho
  · obtain ⟨v, o, ho, _⟩ := I.cell x c q
    rw [z, e] at ho; cases ho
  · have := (I.pin p hp).1
    rw [z, e] at this; cases this
theorem un_left (I : Inv X pins σ H s) (hex : X.ex = []) (hs : X.stack = X.env :: X.outer) (hfr : X.env.frame = some X.env.locals) (hd : List Addr) (hh : ∀ b ∈ hd, X.s_0.heap.get? b = none ∧ H b = none)
    (keep : ∀ b o, s.heap.get? b = some o → b ∉ frs X.stack → b ∉ hd → h'.get? b = some o) (slot : ∀ b o, s.heap.get? b = some o → b ∈ frs X.stack → ∃ sl, h'.get? b = some { o with slots := sl }) :
    Un X.fs [] X.H_0 H X.s_0.heap h' ∧ HOk X.prog X.w H h' := by
  have noex : ∀ b : Addr, b ∉ X.ex := fun b => by rw [hex]; simp
  have est : frs X.stack = X.env.locals :: X.fs := by rw [hs]; unfold frs; rw [List.filterMap_cons, hfr]; rfl
  have hL : X.s_0.heap.get? X.env.locals = none := Heap.get?_none_of_le I.ok.above
  have nst : ∀ b o, X.s_0.heap.get? b = some o → b ∉ X.fs → b ∉ frs X.stack := fun b o e hb hm => by
    rw [est] at hm
    rcases List.mem_cons.mp hm with z | z
    · rw [z, hL] at e; cases e
    · exact hb z
  have nhd : ∀ b o, X.s_0.heap.get? b = some o → b ∉ hd := fun b o e hm => by rw [(hh b hm).1] at e; cases e
  refine ⟨⟨fun b o e n hb _ => keep b o (I.base.keep b o e n hb (noex b)) (nst b o e hb) (nhd b o e), fun b o e n hb _ => ?_, fun b o e n _ => I.base.free b o e n (noex b), fun b o e _ => ?_, I.base.tups, I.base.frzs, I.base.tbls⟩, fun a o e => ?_⟩
  · obtain ⟨sl, q⟩ := I.base.slot b o e n hb (noex b)
    obtain ⟨sl', q'⟩ := slot b _ q (by rw [est]; exact List.mem_cons_of_mem _ hb)
    exact ⟨sl', q'⟩
  · obtain ⟨o', q⟩ := I.base.there b o e (noex b)
    by_cases hm : b ∈ frs X.stack
    · obtain ⟨sl, z⟩ := slot b _ q hm
      exact ⟨_, z⟩
    · exact ⟨o', keep b o' q hm (nhd b o e)⟩
  · have tracked : ∀ b u, H b = some u → b ∉ frs X.stack ∧ b ∉ hd := fun b u q => ⟨fun hm => (by rw [I.stkFree b hm] at q; cases q), fun hm => (by rw [(hh b hm).2] at q; cases q)⟩
    refine (I.hok a o e).stay (fun b u hb q => ?_) (fun _ q => q) fun _ _ q => q
    rcases hb with rfl | hb
    · exact keep _ _ q (tracked _ _ e).1 (tracked _ _ e).2
    · exact keep _ _ q (tracked _ _ hb).1 (tracked _ _ hb).2
theorem mem_frs {l : List Env} {env : Env} (he : env ∈ l) {a : Addr} (ha : env.frame = some a) : a ∈ frs l := List.mem_filterMap.mpr ⟨env, he, ha⟩
theorem two_cases {P : Addr → Prop} {x T : Addr} (h1 : P x) (h2 : P T) : ∀ b ∈ [x, T], P b := fun b hb => by
  rcases List.mem_cons.mp hb with rfl | hb
  · exact h1
  · rcases List.mem_cons.mp hb with rfl | hb
    · exact h2
    · cases hb
theorem Inv.moved (I : Inv X pins σ H s) (ch : List Addr) (hch : ∀ b ∈ ch, X.s_0.heap.get? b = none ∧ b ≠ X.env.locals ∧ (∀ x c, X.env.cells.lookup x = some c → c ≠ b) ∧ (∀ p ∈ X.pn ++ pins, p.1 ≠ b) ∧ H b = none)
    (keep : ∀ b o, s.heap.get? b = some o → b ∉ frs X.stack → b ∉ ch → h'.get? b = some o) (slot : ∀ b o, s.heap.get? b = some o → b ∈ frs X.stack → ∃ sl, h'.get? b = some { o with slots := sl }) : Inv X pins σ H { s with heap := h' } := by
  have neL : ∀ b o, X.s_0.heap.get? b = some o → b ≠ X.env.locals := fun b o e => Nat.ne_of_lt (Nat.lt_of_lt_of_le (Heap.lt_size e) I.ok.above)
  have neC : ∀ b o, X.s_0.heap.get? b = some o → b ∉ ch := fun b o e hb => by rw [(hch b hb).1] at e; cases e
  have nst : ∀ b o, X.s_0.heap.get? b = some o → b ∉ X.fs → b ∉ frs X.stack := fun b o e hb hm => (List.mem_cons.mp (I.stkSub b hm)).elim (neL b o e) hb
  have any : ∀ b o, s.heap.get? b = some o → b ∉ ch → ∃ sl, h'.get? b = some { o with slots := sl } := fun b o e hb => by
    by_cases hm : b ∈ frs X.stack
    · exact slot b o e hm
    · exact ⟨o.slots, keep b o e hm hb⟩
  have cellK : ∀ x c, X.env.cells.lookup x = some c → ∀ v, s.heap.IsCell c v → h'.IsCell c v := fun x c e v ⟨o, ho, hd⟩ => by
    obtain ⟨sl, q⟩ := any c o ho fun z => (hch c z).2.2.1 x c e rfl
    exact ⟨_, q, hd⟩
  have tracked : ∀ b u, H b = some u → b ∉ frs X.stack ∧ b ∉ ch := fun b u q => ⟨fun hm => (by rw [I.stkFree b hm] at q; cases q), fun hm => (by rw [(hch b hm).2.2.2.2] at q; cases q)⟩
  refine ⟨I.ok, I.os, I.bare, ⟨fun b o e n hb hx => ?_, fun b o e n hb hx => ?_, fun b o e n hx => I.base.free b o e n hx, fun b o e hx => ?_, I.base.tups, I.base.frzs, I.base.tbls⟩, ?_, fun x c e => ?_, I.free, I.freeC, fun p hp => ?_, fun a o e => ?_, I.len⟩
  · exact keep b o (I.base.keep b o e n hb hx) (nst b o e hb) (neC b o e)
  · obtain ⟨sl, e1⟩ := I.base.slot b o e n hb hx
    obtain ⟨sl', e2⟩ := any b _ e1 (neC b o e)
    exact ⟨sl', e2⟩
  · obtain ⟨o', e1⟩ := I.base.there b o e hx
    obtain ⟨sl, e2⟩ := any b o' e1 (neC b o e)
    exact ⟨_, e2⟩
  · obtain ⟨m, ⟨o, es, ep, ho, r⟩, hl⟩ := I.loc
    obtain ⟨sl, q⟩ := any _ o ho fun z => (hch _ z).2.1 rfl
    refine ⟨m, ⟨_, es, ep, q, r⟩, fun i x v e1 e2 e3 => ?_⟩
    obtain ⟨u, rr, l⟩ := hl i x v e1 e2 e3
    refine ⟨u, rr, ?_⟩
    rcases l with l | ⟨k, c, e, z⟩
    · exact .inl l
    · exact .inr ⟨k, c, e, cellK x c e _ z⟩
  · obtain ⟨v, z⟩ := I.cell x c e
    exact ⟨v, cellK x c e v z⟩
  · obtain ⟨e, n, ne, nf, d⟩ := I.pin p hp
    exact ⟨keep p.1 p.2 e (fun hm => (List.mem_cons.mp (I.stkSub _ hm)).elim ne nf) (fun z => (hch p.1 z).2.2.2.1 p hp rfl), n, ne, nf, d⟩
  · refine (I.hok a o e).stay (fun b u hb q => ?_) (fun _ q => q) fun _ _ q => q
    rcases hb with rfl | hb
    · exact keep _ _ q (tracked _ _ e).1 (tracked _ _ e).2
    · exact keep _ _ q (tracked _ _ hb).1 (tracked _ _ hb).2
theorem air_base (I : Inv X pins σ H s) {x T : Addr} {cls c fl : Value} (ht : TrF s.heap x T cls c fl) : OnV (PySem.W.hideAll s.heap (x :: T :: frs X.stack)) X.stack x cls c fl s.heap := by
  obtain ⟨oe, vs, oT, ts, g1, g2, g3, g4, g5, g6, g7, g8⟩ := ht
  exact ⟨fun b o q => PySem.W.of_hideAll _ q, PySem.W.hideAll_none _ (by simp), PySem.W.funFrames_hide I.stack (fun env henv a ha => List.mem_cons_of_mem _ (List.mem_cons_of_mem _ (mem_frs henv ha))), oe, vs, T, oT, ts, g1, g2, g3, g4, PySem.W.hideAll_none _ (by simp), g5, g6, g7, g8⟩
theorem air_slot (I : Inv X pins σ H s) (up : s.heap.UpToSlots h') : ∀ b o, s.heap.get? b = some o → b ∈ frs X.stack → (∀ vs, o.data ≠ .fields vs) ∧ ∃ sl, h'.get? b = some { o with slots := sl } := fun b o q hm => by
  obtain ⟨_, o2, q2, nf⟩ := I.stack.mem hm
  rw [q] at q2; cases q2
  exact ⟨nf, up b o q nf⟩
theorem air_keep {x T : Addr} (k1 : (PySem.W.hideAll s.heap (x :: T :: frs X.stack)).StaysIn h') : ∀ b o, s.heap.get? b = some o → b ∉ frs X.stack → b ∉ [x, T] → h'.get? b = some o := fun b o q nb nd => k1 b o (PySem.W.hideAll_get _ q fun hm => by
  rcases List.mem_cons.mp hm with z | hm
  · exact nd (by rw [z]; simp)
  · rcases List.mem_cons.mp hm with z | hm
    · exact nd (by rw [z]; simp)
    · exact nb hm)
theorem air_entry (I : Inv X pins σ H s) {x T T' : Addr} {oT' : Obj} {ts' : Array Value} (up : s.heap.UpToSlots h') (t5 : (PySem.W.hideAll s.heap (x :: T :: frs X.stack)).get? T' = none) (t6 : T' ≠ x) (t7 : h'.get? T' = some oT') (t8 : oT'.data = .fields ts') : s.heap.get? T' = none ∨ T' = T := by
  cases q : s.heap.get? T' with
  | none => exact .inl rfl
  | some o =>
    by_cases hm : T' ∈ x :: T :: frs X.stack
    · rcases List.mem_cons.mp hm with z | hm
      · exact absurd z t6
      · rcases List.mem_cons.mp hm with z | hm
        · exact .inr z
        · obtain ⟨nf, sl, z⟩ := air_slot I up T' o q hm
          rw [t7] at z
          cases z
          exact absurd t8 (nf ts')
    · have := PySem.W.hideAll_get _ q hm
      rw [t5] at this; cases this
theorem air_chain (I : Inv X pins σ H s) {x T T' : Addr} {n : Nat} {c : Value} (k1 : (PySem.W.hideAll s.heap (x :: T :: frs X.stack)).StaysIn h') (e : s.heap.get? T' = none ∨ T' = T) (q : Chn s.heap H [x, T] n c) : Chn h' H [x, T'] n c :=
  q.move fun a o vs g1 g2 g3 g4 => ⟨air_keep k1 a o g1 (fun hm => by obtain ⟨_, o2, q2, nf⟩ := I.stack.mem hm; rw [g1] at q2; cases q2; exact nf vs g2) g4, g3, fun hm => by
    rcases List.mem_cons.mp hm with z | hm
    · exact g4 (by rw [z]; simp)
    · rcases List.mem_cons.mp hm with z | hm
      · rcases e with e | e
        · rw [← z, g1] at e; cases e
        · exact g4 (by rw [z, e]; simp)
      · cases hm⟩
end
def AirTo (X : Cx) (E : XK) : Prop := ∀ (pins : List (Addr × Obj)) (σ : St) (H : Hp) (s : Shared) (x T : Addr) (cls c fl : Value) (n : Nat), Inv X pins σ H s → (X.s_0.heap.get? x = none ∧ X.s_0.heap.get? T = none ∧ H x = none ∧ H T = none) → TrF s.heap x T cls c fl → Chn s.heap H [x, T] n c → E cls none H → X.xe (.ref x) s
def RaiseTo (X : Cx) (E : XK) : Prop := ∀ (pins : List (Addr × Obj)) (σ : St) (H : Hp) (s : Shared) (h1 : Heap) (e : Addr) (oe : Obj) (vs : Array Value) (c : Value) (n : Nat), Inv X pins σ H s → (∀ b o, s.heap.get? b = some o → h1.get? b = some o) → s.heap.get? e = none → h1.get? e = some oe → oe.data = .fields vs → vs[1]? = some .none → vs[2]? = some c → Chn s.heap H [] n c → E oe.cls none H → X.xe (.ref e) { s with heap := h1 }
abbrev cxP (P : Program) (w : World) (K : PySem.W.Frag) (mg : Str → Option Value) (base : Heap) (N : List Str) (qual : Str) (scope : Scope) (f : Addr) (cd : Value) (A : Around) (outer : List Env) (s0 : Shared) (H0 : Hp) (E : XK) (cb : Bool) (ps : List (Addr × Obj)) : Cx := { cxOf (CX1 P w) P w K mg base N qual scope f cd A outer s0 H0 E with calm := cb, pn := ps }
section
variable {P : Program} {w : World} {K : PySem.W.Frag} {mg : Str → Option Value} {base : Heap} {N : List Str} {qual : Str} {scope : Scope} {f : Addr} {cd : Value} {A : Around} {outer : List Env} {s0 : Shared} {H0 : Hp} {E : XK} {cb : Bool} {ps : List (Addr × Obj)}
theorem airP : AirTo (cxP P w K mg base N qual scope f cd A outer s0 H0 E cb ps) E := by
  intro pins σ H s x T cls c fl n I hh ht hq he
  refine leave_any I.ok.frames rfl (air_base I ht) fun h' fl up => ?_
  obtain ⟨k1, k2, k3, oe', vs', T', oT', ts', t1, t2, t3, t4, t5, t6, t7, t8, t9⟩ := fl
  have hd := two_cases (P := fun b => s0.heap.get? b = none ∧ H b = none) ⟨hh.1, hh.2.2.1⟩ ⟨hh.2.1, hh.2.2.2⟩
  obtain ⟨un', hok'⟩ := un_left (h' := h') I rfl rfl rfl [x, T] hd (air_keep k1) (fun b o q hm => (air_slot I up b o q hm).2)
  have ent := air_entry I up t5 t6 t7 t8
  have hT' : s0.heap.get? T' = none ∧ H T' = none := by
    rcases id ent with q | rfl
    · exact ⟨I.none0 rfl q, hok_none I.hok q⟩
    · exact hd T' (by simp)
  exact ⟨x, T', cls, c, n, H, rfl, I.os, I.bare, un', hok', ⟨hh.1, hT'.1, hh.2.2.1, hT'.2⟩, ⟨⟨oe', vs', oT', ts', t1, t2, t3, t4, t6, t7, t8, t9⟩, air_chain I k1 ent hq⟩, he⟩
theorem passesP : Passes (CX1 P w) (cxP P w K mg base N qual scope f cd A outer s0 H0 E cb ps) E := by
  intro pins σ H s e s' I hx
  obtain ⟨x, T, cls, c, n, H', rfl, hos, hbare, un, hok, ⟨hx0, hT0, hxn, hTn⟩, ⟨ht, hq⟩, he⟩ := hx
  have I1 : Inv (cxP P w K mg base N qual scope f cd A outer s0 H0 E cb ps) pins σ H' s' := I.call' (ch := []) hos un hok hbare (fun b hb => absurd hb (by simp))
  exact airP pins σ H' s' x T cls c .none n I1 ⟨I.none0 rfl hx0, I.none0 rfl hT0, hxn, hTn⟩ ht hq he
theorem raiseP : RaiseTo (cxP P w K mg base N qual scope f cd A outer s0 H0 E cb ps) E := by
  intro pins σ H s h1 e oe vs c n I kp ne ge de f1 f2 hq he
  have hff := I.stack
  show wpAny _ _ (leaving _ (.ref e)) _ _ _
  unfold leaving
  have nh : (PySem.W.hideAll s.heap (frs (cxP P w K mg base N qual scope f cd A outer s0 H0 E cb ps).stack)).get? e = none := by
    cases q : (PySem.W.hideAll s.heap (frs (cxP P w K mg base N qual scope f cd A outer s0 H0 E cb ps).stack)).get? e with
    | none => rfl
    | some o => rw [PySem.W.of_hideAll _ q] at ne; cases ne
  refine wpAny_bind (note_first (s := { s with heap := h1 }) (base := PySem.W.hideAll s.heap (frs (cxP P w K mg base N qual scope f cd A outer s0 H0 E cb ps).stack)) I.ok.frames rfl ((PySem.W.funFrames_hide hff (fun env henv a ha => mem_frs henv ha)).of_keeps fun b o q nf => ⟨o, kp b o q, rfl⟩) ge (fun b o q => kp b o (PySem.W.of_hideAll _ q)) nh de f1 f2 fun h2 o2 up1 => ?_)
  refine flight_set (s := { s with heap := h2 }) o2 fun h' fl up2 => ?_
  obtain ⟨k1, k2, k3, oe', vs', T', oT', ts', t1, t2, t3, t4, t5, t6, t7, t8, t9⟩ := fl
  have slot : ∀ b o, s.heap.get? b = some o → b ∈ frs (cxP P w K mg base N qual scope f cd A outer s0 H0 E cb ps).stack → (∀ vs, o.data ≠ .fields vs) ∧ ∃ sl, h'.get? b = some { o with slots := sl } := fun b o q hm => by
    obtain ⟨_, o2, q2, nf⟩ := hff.mem hm
    rw [q] at q2; cases q2
    exact ⟨nf, (up1.trans up2) b o (kp b o q) nf⟩
  have keep : ∀ b o, s.heap.get? b = some o → b ∉ frs (cxP P w K mg base N qual scope f cd A outer s0 H0 E cb ps).stack → h'.get? b = some o := fun b o q nb => k1 b o (PySem.W.hideAll_get _ q nb)
  obtain ⟨un', hok'⟩ := un_left (h' := h') I rfl rfl rfl [] (fun b hb => absurd hb (by simp)) (fun b o q nb _ => keep b o q nb) (fun b o q hm => (slot b o q hm).2)
  have new : s.heap.get? T' = none := by
    cases q : s.heap.get? T' with
    | none => rfl
    | some o =>
      by_cases hm : T' ∈ frs (cxP P w K mg base N qual scope f cd A outer s0 H0 E cb ps).stack
      · obtain ⟨nf, sl, z⟩ := slot T' o q hm
        rw [t7] at z
        cases z
        exact absurd t8 (nf ts')
      · have := PySem.W.hideAll_get _ q hm
        rw [t5] at this; cases this
  exact ⟨e, T', oe.cls, c, n, H, rfl, I.os, I.bare, un', hok', ⟨I.none0 rfl ne, I.none0 rfl new, hok_none I.hok ne, hok_none I.hok new⟩, ⟨⟨oe', vs', oT', ts', t1, t2, t3, t4, t6, t7, t8, t9⟩, hq.move fun a o vs g1 g2 g3 g4 => ⟨keep a o g1 (fun hm => by obtain ⟨_, o2, q2, nf⟩ := hff.mem hm; rw [g1] at q2; cases q2; exact nf vs g2), g3, fun hm => by
    rcases List.mem_cons.mp hm with z | hm
    · rw [← z, g1] at ne; cases ne
    · rcases List.mem_cons.mp hm with z | hm
      · rw [← z, g1] at new; cases new
      · cases hm⟩⟩, he⟩
end
section
variable {P : Program} {w : World} {K : PySem.W.Frag} {mg : Str → Option Value} {base : Heap} {N : List Str} {qual : Str} {scope : Scope} {f : Addr} {cd : Value} {A : Around} {outer : List Env} {s0 : Shared} {H0 : Hp} {E : XK}
theorem passes1 : Passes (CX1 P w) (cxOf (CX1 P w) P w K mg base N qual scope f cd A outer s0 H0 E) E := passesP (cb := true) (ps := [])
theorem raise1 : RaiseTo (cxOf (CX1 P w) P w K mg base N qual scope f cd A outer s0 H0 E) E := raiseP (cb := true) (ps := [])
end
def EXB : List Value := [.type "Exception", .type "BaseException", .type "object"]
def ExcK (K : PySem.W.Frag) (C : Addr) : Prop := PySem.W.excIn K C EXB "Exception.__new__" = true
theorem ExcK.obj {K : PySem.W.Frag} {h : Heap} {C : Addr} (X : K.In h) (q : ExcK K C) : ∃ bm N nm qn bs hdct sn sub ab col dd k0 k1 k2 k3 k5 mN, h.get? C = some (excClassObj nm qn C N bs bm hdct sn sub ab col dd k0 k1 k2 k3 k5 "Exception.__new__") ∧ h.Ns N mN ∧ mN "__init__" = none ∧ OwnTail h EXB bm := by
  unfold ExcK PySem.W.excIn at q
  split at q
  · rename_i dd cd sl ho
    split at q
    · rename_i C' bm k0 k1 k2 k3 n k5 hm hs
      simp only [Bool.and_eq_true, beq_iff_eq, Bool.not_eq_true'] at q
      obtain ⟨⟨⟨⟨⟨rfl, rfl⟩, hdel⟩, ht⟩, hok⟩, hni⟩ := q
      obtain ⟨nm, bs, mro, ns, qn, hd, sn, sub, ab, col, del⟩ := cd
      dsimp only at hm hdel hok hni
      subst hm hdel
      have hsl : sl = #[k0, k1, k2, k3, some (.builtin "Exception.__new__"), k5] := by
        obtain ⟨l⟩ := sl
        simp only at hs
        rw [hs]
      subst hsl
      exact ⟨bm, ns, nm, qn, bs, hd, sn, sub, ab, col, dd, k0, k1, k2, k3, k5, _, X _ _ ho, .of_isNs (PySem.W.isNs_of_in X hok), PySem.W.nsMap_none_of_in X hok hni, PySem.W.tail_of_in X ht⟩
    · cases q
  · cases q
def tRaise (E : XK) (C : Addr) : TS := fun _ _ H => E (.ref C) none H
theorem ps_raise {X : Cx} {x : Str} {C : Addr} {E : XK} {np cpos pos : Pos} (hc : X.calm = true) (hg : Gl X x) (hm : X.mg x = some (.ref C)) (hC : ExcK X.K C) (hr : RaiseTo X E) (hd : (x == ("__debug__" : Str)) = false := by decide) :
    PS X (.Raise (some (.Call (.Name x np) [] [] cpos)) none pos) (tRaise E C) := by
  intro pins s σ H D I h
  obtain ⟨bm, N, nm, qn, bs, hdct, sn, sub, ab, col, dd, k0, k1, k2, k3, k5, mN, g1, g2, g3, g4⟩ := hC.obj I.kIn
  exact wpAny_Raise_call_subT (C := C) (nm := nm) (q := qn) (N := N) (bs := bs) (bm := bm) (hdct := hdct) (sn := sn) (sub := sub) (ab := ab) (col := col) (dd := dd) (k0 := k0) (k1 := k1) (k2 := k2) (k3 := k3) (k5 := k5)
    F.excBase_Exception (mN := mN) (g4.hasType F.excBase_Exception.hasBase) (I.ok.hd hc) rfl g3 (ld_glob I hg hm ⟨rfl, evalArgs_empty ⟨rfl, Nat.zero_le _, g1, g2, g4, fun h' e hx => by
      obtain ⟨t, ht, _⟩ := hx.there
      exact hr pins σ H s h' e _ _ .none 0 I hx.keeps hx.new ht rfl rfl rfl .nil h⟩⟩ hd)
theorem Fun.okE {P : Program} {w : World} {K : PySem.W.Frag} {mg : Str → Option Value} {base : Heap} {x qual : Str} {st : Stmt} {f : Addr} {fd : FuncData} {N ps : List Str} {k : Nat} {sp : Sp} (F : Fun K x qual st f fd) (S : FnScope N ps (defScope st)) (len : ∀ vs H Q E, sp vs H Q E → vs.length = ps.length)
    (hbody : ∀ (cdv : Value) (A : Around) (outer : List Env) (s : Shared) (H : Hp) (vs : List V) (Q : VK) (E : XK), Room k (A.deeper (envOfC qual (defScope st) s.heap.objs.size f cdv)) → sp vs H Q E →
      ∃ t, PSs (cxOf (CX1 P w) P w K mg base N qual (defScope st) f cdv A outer s H E) (defBody st) t ∧ t { nx := fun _ H' => Q .non H', rt := Q } (start N vs) H) : FnOk P w K mg base (CX1 P w) (k + 1) f fd ps sp := by
  obtain ⟨oc, od, kV, doc, pm, an, cdv, ct, osl, rfl, lk, hcd⟩ := F.ex
  exact fn_of lk hcd S len fun A outer s H vs Q E hr hsp => hbody cdv A outer s H vs Q E hr hsp
end L2
namespace L2
open PySem PySem.Spec PyProof.Rows
def AirAt (X : Cx) (pins : List (Addr × Obj)) (σ : St) (E : XK) (ev : Value) (s : Shared) : Prop := ∃ (x T : Addr) (cls c fl : Value) (n : Nat) (H : Hp), ev = .ref x ∧ Inv X pins σ H s ∧
  (∀ b ∈ [x, T], X.s_0.heap.get? b = none ∧ b ≠ X.env.locals ∧ (∀ y c, X.env.cells.lookup y = some c → c ≠ b) ∧ (∀ p ∈ X.pn ++ pins, p.1 ≠ b) ∧ H b = none) ∧ TrF s.heap x T cls c fl ∧ Chn s.heap H [x, T] n c ∧ E cls none H
section
variable {X : Cx} {pins : List (Addr × Obj)} {σ : St} {H : Hp} {s s' : Shared} {E : XK}
theorem air_of_CX1 (I : Inv X pins σ H s) (hex : X.ex = []) {e : Value} (h : CX1 X.prog X.w X.stack H s E e s') : AirAt X pins σ E e s' := by
  obtain ⟨x, T, cls, c, n, H', rfl, hos, hbare, un, hok, ⟨hx0, hT0, hxn, hTn⟩, ⟨ht, hq⟩, he⟩ := h
  have I1 : Inv X pins σ H' s' := I.call' (ch := []) hos un hok hbare (fun b hb => absurd hb (by simp))
  obtain ⟨z1, z2, z3, z4⟩ := I.apart hex hx0
  obtain ⟨y1, y2, y3, y4⟩ := I.apart hex hT0
  exact ⟨x, T, cls, c, .none, n, H', rfl, I1, two_cases ⟨z1, z2, z3, z4, hxn⟩ ⟨y1, y2, y3, y4, hTn⟩, ht, hq, he⟩
theorem air_on {x T : Addr} {cls c fl : Value} {n : Nat} {l : List Env} {h2 : Heap} (hex : X.ex = []) (I : Inv X pins σ H s) (ap : ∀ b ∈ [x, T], X.s_0.heap.get? b = none ∧ b ≠ X.env.locals ∧ (∀ y c, X.env.cells.lookup y = some c → c ≠ b) ∧ (∀ p ∈ X.pn ++ pins, p.1 ≠ b) ∧ H b = none) (hq : Chn s.heap H [x, T] n c) (he : E cls none H)
    (o : OnV (PySem.W.hideAll s.heap (x :: T :: frs X.stack)) l x cls c fl h2) (up : s.heap.UpToSlots h2) : AirAt X pins σ E (.ref x) { s with heap := h2 } := by
  obtain ⟨k1, k2, k3, oe', vs', T', oT', ts', t1, t2, t3, t4, t5, t6, t7, t8, t9⟩ := o
  have hent := air_entry I up t5 t6 t7 t8
  have apx := ap x (by simp)
  have apT := ap T (by simp)
  have apT' : X.s_0.heap.get? T' = none ∧ T' ≠ X.env.locals ∧ (∀ y c, X.env.cells.lookup y = some c → c ≠ T') ∧ (∀ p ∈ X.pn ++ pins, p.1 ≠ T') ∧ H T' = none := by
    rcases id hent with q | rfl
    · obtain ⟨z1, z2, z3, z4⟩ := I.apart hex q
      exact ⟨z1, z2, z3, z4, hok_none I.hok q⟩
    · exact apT
  have Im : Inv X pins σ H { s with heap := h2 } := I.moved [x, T] (two_cases apx apT) (air_keep k1) (fun b o q hm => (air_slot I up b o q hm).2)
  exact ⟨x, T', cls, c, fl, n, H, rfl, Im, two_cases apx apT', ⟨oe', vs', oT', ts', t1, t2, t3, t4, t6, t7, t8, t9⟩, air_chain I k1 hent hq, he⟩
theorem air_note {M : Model} {Ee : Value → Shared → Prop} {Q : Unit → Shared → Prop} {A : Around} {ev : Value} (hex : X.ex = []) (hst : X.stack = X.env :: X.outer) (hfr : X.env.frame = some X.env.locals) (hA : A.frames = X.A.frames) (h : AirAt X pins σ E ev s) (k : ∀ s3, AirAt X pins σ E ev s3 → Q () s3) :
    wpAny M A (noteFrame ev X.env) Q Ee s := by
  obtain ⟨x, T, cls, c, fl, n, H, rfl, I, ap, ht, hq, he⟩ := h
  exact note_any (by rw [hA, I.ok.frames, hst]) hfr (by rw [← hst]; exact air_base I ht) fun h1 hh up => k _ (air_on hex I ap hq he hh up)
theorem air_flight {M : Model} {Ee : Value → Shared → Prop} {Q : Unit → Shared → Prop} {A : Around} {ev : Value} {fo : Option Addr} (hex : X.ex = []) (h : AirAt X pins σ E ev s) (k : ∀ s3, AirAt X pins σ E ev s3 → Q () s3) : wpAny M A (setFlight ev fo) Q Ee s := by
  obtain ⟨x, T, cls, c, fl, n, H, rfl, I, ap, ht, hq, he⟩ := h
  exact flight_set (air_base I ht) fun h2 o up => k _ (air_on hex I ap hq he o up)
theorem air_back {M : Model} {Q : Value → Shared → Prop} {A : Around} {ev : Value} (hex : X.ex = []) (h : AirAt X pins σ E ev s) (k : ∀ s3, AirAt X pins σ E ev s3 → Q ev s3) : cameBackBy M A X.env Q ev s := by
  obtain ⟨x, T, cls, c, fl, n, H, rfl, I, ap, ht, hq, he⟩ := id h
  obtain ⟨oe, vs, oT, ts, g1, g2, g3, g4, _⟩ := ht
  unfold cameBackBy
  refine wpAny_bind (wpAny_field g1 g3 g4 ?_)
  rw [if_neg (by simp)]
  exact air_flight hex h k
end
theorem excMatches_own {M : Model} {A : Around} {E : Value → Shared → Prop} {h : Heap} {g : Array GenState} {d : Drawn} {t : Nat} {os : OsState} {e C C2 : Addr} {oe : Obj} {Q : Bool → Shared → Prop}
    {nm q : Str} {N : Addr} {bs bm : List Value} {hdct : Bool} {sn : List Str} {sub : List Value} {ab : Bool} {col : Option Bool} {dd : Option Addr} {k0 k1 k2 k3 k5 : Option Value} {newId : String}
    {nm' q' : Str} {N' : Addr} {bs' bm' : List Value} {hdct' : Bool} {sn' : List Str} {sub' : List Value} {ab' : Bool} {col' : Option Bool} {dd' : Option Addr} {j0 j1 j2 j3 j5 : Option Value} {newId' : String}
    (hC : h.get? C = some (excClassObj nm q C N bs bm hdct sn sub ab col dd k0 k1 k2 k3 k5 newId)) (hC2 : h.get? C2 = some (excClassObj nm' q' C2 N' bs' bm' hdct' sn' sub' ab' col' dd' j0 j1 j2 j3 j5 newId')) (he : h.get? e = some oe) (hcls : oe.cls = .ref C) (hbase : bm'.contains (.type "BaseException") = true)
    (hq : Q ((Value.ref C :: bm).contains (.ref C2)) ⟨h, g, d, t, os⟩) : wpAny M A (excMatches (.ref e) (.ref C2)) Q E ⟨h, g, d, t, os⟩ := by
  have hcB : (Value.ref C2 :: bm').contains (.type "BaseException") = true := by rw [List.contains_cons, hbase, Bool.or_true]
  have f := tc_notTuple
  unfold excMatches
  repeat (first | (with_reducible refine wpAny_loadPart_at he ?_; rw [hcls]) | with_reducible refine wpAny_loadPart_at hC2 ?_ | (with_reducible refine wpAny_isSubtype_exc hC2 ?_; rw [hcB]) | with_reducible refine wpAny_isSubtype_exc hC ?_ | wp_step)
  cases hb : (Value.ref C :: bm).contains (.ref C2) <;> (rw [hb] at hq; wp_walk; exact hq)
def baseIn (K : PySem.W.Frag) (C : Addr) : Bool := match K.lookup C with
  | some ⟨_, _, .cls cd, _⟩ => cd.mro == .ref C :: EXB
  | _ => false
theorem base_is {K : PySem.W.Frag} {h : Heap} {C : Addr} (X : K.In h) (hb : baseIn K C = true) {nm q : Str} {N : Addr} {bs bm : List Value} {hdct : Bool} {sn : List Str} {sub : List Value} {ab : Bool} {col : Option Bool} {dd : Option Addr} {k0 k1 k2 k3 k5 : Option Value} {newId : String}
    (hC : h.get? C = some (excClassObj nm q C N bs bm hdct sn sub ab col dd k0 k1 k2 k3 k5 newId)) : bm = EXB := by
  unfold baseIn at hb
  split at hb
  · rename_i ho
    have := X _ _ ho
    rw [hC] at this
    cases this
    have z := beq_iff_eq.mp hb
    cases z
    rfl
  · cases hb
structure Own (K : PySem.W.Frag) (C : Addr) : Prop where
  exc : ExcK K C
  base : baseIn K C = true
inductive PCh : List (Addr × Obj) → Nat → Value → Prop
  | nil : PCh [] 0 .none
  | cons {a : Addr} {o : Obj} {vs : Array Value} {c : Value} {n : Nat} {ps : List (Addr × Obj)} : o.data = .fields vs → vs[2]? = some c → PCh ps n c → PCh ((a, o) :: ps) (n + 1) (.ref a)
theorem Chn.pins {h : Heap} {H : Hp} {av : List Addr} {n : Nat} {c : Value} (x : Chn h H av n c) : ∃ ps, PCh ps n c ∧ ∀ p ∈ ps, h.get? p.1 = some p.2 ∧ H p.1 = none ∧ ∃ vs, p.2.data = .fields vs := by
  induction x with
  | nil => exact ⟨[], .nil, fun p hp => absurd hp (by simp)⟩
  | @cons n a o vs c h1 h2 h3 h4 h5 _ ih =>
    obtain ⟨ps, k1, k2⟩ := ih
    refine ⟨(a, o) :: ps, .cons h2 h3 k1, fun p hp => ?_⟩
    rcases List.mem_cons.mp hp with rfl | hp
    · exact ⟨h1, h4, vs, h2⟩
    · exact k2 p hp
abbrev Cx.mrk (X : Cx) (x : Addr) (ps : List (Addr × Obj)) : Cx := { X with A := X.A.mark (some (.ref x)), calm := false, pn := X.pn ++ ps, xe := notedBy (model X.prog X.w) (X.A.mark (some (.ref x))) X.env (cameBackBy (model X.prog X.w) X.A X.env X.xe) }
section
variable {X : Cx} {pins ps : List (Addr × Obj)} {σ : St} {H : Hp} {s : Shared} {x : Addr} {E : XK}
theorem Cx.Ok.mrk (ok : X.Ok) (x : Addr) (ps : List (Addr × Obj)) : (X.mrk x ps).Ok := ⟨ok.mod, ok.kind, ok.glob, ok.blt, ok.above, ok.inj, ok.has, ok.cab, (fun z => nomatch z), ok.frames, ok.stk, ok.exf, ok.bs, ok.bsz, ok.noex, ok.exfs, ok.funs, ok.frf⟩
theorem Inv.mrk (I : Inv X pins σ H s) (x : Addr) (hp : ∀ p ∈ ps, s.heap.get? p.1 = some p.2 ∧ H p.1 = none ∧ ∃ vs, p.2.data = .fields vs) : Inv (X.mrk x ps) pins σ H s := by
  refine ⟨I.ok.mrk x ps, I.os, I.bare, I.base, I.loc, I.cell, I.free, I.freeC, fun p hm => ?_, I.hok, I.len⟩
  rcases List.mem_append.mp hm with hm | hm
  · rcases List.mem_append.mp hm with hm | hm
    · exact I.pin p (List.mem_append_left _ hm)
    · obtain ⟨g1, g2, vs, g3⟩ := hp p hm
      refine ⟨g1, g2, fun z => ?_, fun z => ?_, fun v q => by rw [g3] at q; cases q⟩
      · obtain ⟨m, ⟨o, es, ep, ho, hd, _⟩, _⟩ := I.loc
        rw [← z, g1] at ho; cases ho; rw [g3] at hd; cases hd
      · obtain ⟨_, o, ho, nf⟩ := I.funs.mem z
        rw [g1] at ho; cases ho; exact nf vs g3
  · exact I.pin p (List.mem_append_right _ hm)
theorem Inv.unmrk (ok : X.Ok) (I : Inv (X.mrk x ps) pins σ H s) : Inv X pins σ H s := ⟨ok, I.os, I.bare, I.base, I.loc, I.cell, I.free, I.freeC, fun p hm => I.pin p (by
  rcases List.mem_append.mp hm with hm | hm
  · exact List.mem_append_left _ (List.mem_append_left _ hm)
  · exact List.mem_append_right _ hm), I.hok, I.len⟩
theorem SP.unmrk (ok : X.Ok) {D : Ends} {f : Flow} {s' : Shared} (h : SP (X.mrk x ps) pins D f s') : SP X pins D f s' := by
  cases f with
  | next => obtain ⟨σ', H', I, q⟩ := h; exact ⟨σ', H', I.unmrk ok, q⟩
  | brk => obtain ⟨σ', H', I, q⟩ := h; exact ⟨σ', H', I.unmrk ok, q⟩
  | cont => obtain ⟨σ', H', I, q⟩ := h; exact ⟨σ', H', I.unmrk ok, q⟩
  | ret u => obtain ⟨v, σ', H', I, r, q⟩ := h; exact ⟨v, σ', H', I.unmrk ok, r, q⟩
theorem clause {C : Addr} {y : Str} {np pos : Pos} {b0 : Stmt} {suite : List Stmt} {rest : List ExceptHandler} {t : TS} {D : Ends} {ev : Value} (hex : X.ex = []) (hC : Own X.K C) (hg : Gl X y) (hm : X.mg y = some (.ref C)) (hsu : ∀ x ps n, PCh ps n (.ref x) → PSs (X.mrk x ps) (b0 :: suite) t)
    (own : ∀ cls d H, E cls d H → ∃ C', cls = .ref C' ∧ Own X.K C') (hit : ∀ d H, E (.ref C) d H → t D σ H) (h : AirAt X pins σ E ev s)
    (miss : ∀ s3, AirAt X pins σ (fun cls d H => E cls d H ∧ cls ≠ .ref C) ev s3 → wpAny (model X.prog X.w) X.A (handleBy ev X.env rest) (SP X pins D) X.xe s3) (hd : (y == ("__debug__" : Str)) = false := by decide) :
    wpAny (model X.prog X.w) X.A (handleBy ev X.env (.ExceptHandler (some (.Name y np)) none (b0 :: suite) pos :: rest)) (SP X pins D) X.xe s := by
  obtain ⟨x, T, cls, c, fl, n, H, rfl, I, ap, ht, hq, he⟩ := id h
  refine wpAny_handleBy_cons (codeAny_handlers_test (ld_glob (X := X.mrk x []) (I.mrk x fun p hp => absurd hp (by simp)) hg hm ?_ hd)) (by intro q; cases q)
  obtain ⟨C', rfl, oC⟩ := own _ _ _ he
  obtain ⟨bm, N, nm, qn, bs, hdct, sn, sub, ab, col, dd, k0, k1, k2, k3, k5, mN, g1, g2, g3, g4⟩ := oC.exc.obj I.kIn
  obtain ⟨bm', N', nm', qn', bs', hdct', sn', sub', ab', col', dd', j0, j1, j2, j3, j5, mN', g1', g2', g3', g4'⟩ := hC.exc.obj I.kIn
  obtain rfl := base_is I.kIn oC.base g1
  obtain rfl := base_is I.kIn hC.base g1'
  obtain ⟨oe, vs, oT, ts, e1, e2, _⟩ := id ht
  obtain ⟨hh, g, d, tk, os⟩ := s
  refine excMatches_own g1 g1' e1 e2.1 (by decide) ?_
  by_cases hc : C' = C
  · subst hc
    have : (Value.ref C' :: EXB).contains (.ref C') = true := by simp
    rw [this]
    have h0 : AirAt X pins σ (fun cls d H => E cls d H ∧ cls = .ref C') (.ref x) ⟨hh, g, d, tk, os⟩ := ⟨x, T, _, c, fl, n, H, rfl, I, ap, ht, hq, he, rfl⟩
    refine codeAny_handlers_suite (air_flight hex h0 fun s3 h3 => ?_)
    obtain ⟨x3, T3, cls3, c3, fl3, n3, H3, q3, I3, ap3, ht3, hq3, he3, rfl⟩ := h3
    cases q3
    obtain ⟨oe3, vs3, _, _, z1, z2, z3, _⟩ := ht3
    have ch : Chn s3.heap H3 [] (n3 + 1) (.ref x) := .cons z1 z3 z2.2 (ap3 x (by simp)).2.2.2.2 (by simp) (hq3.move fun a o vs q1 _ q3 _ => ⟨q1, q3, by simp⟩)
    obtain ⟨ps, p1, p2⟩ := ch.pins
    exact wpAny_mono (hsu x ps _ p1 pins s3 σ H3 D (I3.mrk x p2) (hit _ _ he3)) (fun f s' q => q.unmrk I.ok) (fun _ _ z => z)
  · have : (Value.ref C' :: EXB).contains (.ref C) = false := by
      have e : (Value.ref C == Value.ref C') = false := by simp; exact fun z => hc z.symm
      rw [List.contains_cons, e]; rfl
    rw [this]
    exact miss _ ⟨x, T, _, c, fl, n, H, rfl, I, ap, ht, hq, he, fun z => hc (by cases z; rfl)⟩
def c1 (C : Addr) (u : TS) : Ends → St → XK := fun D σ cls _ H => cls = .ref C ∧ u D σ H
abbrev Cx.tr (X : Cx) (pn : List (Addr × Obj)) (xe : Value → Shared → Prop) : Cx := { X with pn := pn, xe := xe }
def PassesS (X : Cx) (E : St → XK) : Prop := ∀ (pins : List (Addr × Obj)) (σ : St) (H : Hp) (s : Shared) (e : Value) (s' : Shared), Inv X pins σ H s → CX1 X.prog X.w X.stack H s (E σ) e s' → X.xe e s'
def tTry (tb : (St → XK) → TS) (cl : Ends → St → XK) : TS := fun D σ H => tb (cl D) D σ H
theorem Inv.tr {xe : Value → Shared → Prop} (I : Inv X pins σ H s) : Inv (X.tr (X.pn ++ pins) xe) [] σ H s :=
  ⟨⟨I.ok.mod, I.ok.kind, I.ok.glob, I.ok.blt, I.ok.above, I.ok.inj, I.ok.has, I.ok.cab, I.ok.hd, I.ok.frames, I.ok.stk, I.ok.exf, I.ok.bs, I.ok.bsz, I.ok.noex, I.ok.exfs, I.ok.funs, I.ok.frf⟩, I.os, I.bare, I.base, I.loc, I.cell, I.free, I.freeC, fun p hp => I.pin p (by rw [List.append_nil] at hp; exact hp), I.hok, I.len⟩
theorem Inv.untr {xe : Value → Shared → Prop} {pins' : List (Addr × Obj)} (ok : X.Ok) (I : Inv (X.tr (X.pn ++ pins) xe) pins' σ H s) : Inv X pins σ H s := ⟨ok, I.os, I.bare, I.base, I.loc, I.cell, I.free, I.freeC, fun p hp => I.pin p (List.mem_append_left _ hp), I.hok, I.len⟩
theorem SP.untr {xe : Value → Shared → Prop} {pins' : List (Addr × Obj)} (ok : X.Ok) {D : Ends} {f : Flow} {s' : Shared} (h : SP (X.tr (X.pn ++ pins) xe) pins' D f s') : SP X pins D f s' := by
  cases f with
  | next => obtain ⟨σ', H', I, q⟩ := h; exact ⟨σ', H', I.untr ok, q⟩
  | brk => obtain ⟨σ', H', I, q⟩ := h; exact ⟨σ', H', I.untr ok, q⟩
  | cont => obtain ⟨σ', H', I, q⟩ := h; exact ⟨σ', H', I.untr ok, q⟩
  | ret u => obtain ⟨v, σ', H', I, r, q⟩ := h; exact ⟨v, σ', H', I.untr ok, r, q⟩
theorem ps_try {tb : (St → XK) → TS} {cl : Ends → St → XK} {body : List Stmt} {h0 : ExceptHandler} {hs : List ExceptHandler} {pos : Pos} (hex : X.ex = []) (hst : X.stack = X.env :: X.outer) (hfr : X.env.frame = some X.env.locals)
    (hb : ∀ (E : St → XK) (pn : List (Addr × Obj)) (xe : Value → Shared → Prop), PassesS (X.tr pn xe) E → PassesOwn (model X.prog X.w) X.A X.env xe → PSs (X.tr pn xe) body (tb E))
    (hh : ∀ (pins : List (Addr × Obj)) (σ : St) (D : Ends) (ev : Value) (s3 : Shared), AirAt X pins σ (cl D σ) ev s3 → wpAny (model X.prog X.w) X.A (handleBy ev X.env (h0 :: hs)) (SP X pins D) X.xe s3) :
    PS X (.Try body (h0 :: hs) [] [] pos) (tTry tb cl) := by
  intro pins s σ H D I h
  have hp : PassesS (X.tr (X.pn ++ pins) fun ev s => ∃ σ', AirAt X pins σ' (cl D σ') ev s) (cl D) := fun pins' σ' H' s1 e s' I' q => ⟨σ', air_of_CX1 (I'.untr I.ok) hex q⟩
  have ho : PassesOwn (model X.prog X.w) X.A X.env fun ev s => ∃ σ', AirAt X pins σ' (cl D σ') ev s := fun ev s1 ⟨σ', q⟩ => air_note hex hst hfr rfl q fun s2 q2 => air_back hex q2 fun s3 q3 => ⟨σ', q3⟩
  refine wpAny_Try_except (wpAny_mono (hb (cl D) _ _ hp ho [] s σ H D I.tr h) (fun f s1 q => ?_) fun ev s1 ⟨σ', q⟩ => air_note hex hst hfr rfl q fun s2 q2 => air_flight hex q2 fun s3 q3 => hh pins σ' D ev s3 q3)
  have q := q.untr I.ok
  cases f with
  | next => exact wpAny_execs_nil q
  | brk => exact q
  | cont => exact q
  | ret u => exact q
theorem clause1 {C : Addr} {y : Str} {np pos : Pos} {b0 : Stmt} {suite : List Stmt} {u : TS} (hex : X.ex = []) (hC : Own X.K C) (hg : Gl X y) (hm : X.mg y = some (.ref C)) (hsu : ∀ x ps n, PCh ps n (.ref x) → PSs (X.mrk x ps) (b0 :: suite) u) (hd : (y == ("__debug__" : Str)) = false := by decide) :
    ∀ (pins : List (Addr × Obj)) (σ : St) (D : Ends) (ev : Value) (s3 : Shared), AirAt X pins σ (c1 C u D σ) ev s3 → wpAny (model X.prog X.w) X.A (handleBy ev X.env [.ExceptHandler (some (.Name y np)) none (b0 :: suite) pos]) (SP X pins D) X.xe s3 := fun pins σ D ev s3 h => by
  refine clause (t := u) hex hC hg hm hsu (fun cls d H ⟨z, _⟩ => ⟨C, z, hC⟩) (fun d H ⟨_, z⟩ => z) h (fun s3 h3 => ?_) hd
  obtain ⟨_, _, _, _, _, _, _, _, _, _, _, _, ⟨z, _⟩, n⟩ := h3
  exact absurd z n
end
section
variable {X : Cx} {k : Nat} {f : Addr} {fd : FuncData} {ps : List Str} {sp : Sp} {dvs : List V} {ds : List Value} {E : St → XK} {x : Str} {p pos : Pos} {e : Expr} {es : List Expr} {t : TA}
def tCallS (sp : Sp) (dvs : List V) (E : St → XK) (t : TA) : TE := fun σ H Q => t σ H fun vs H1 => sp (vs ++ dvs) H1 Q (E σ)
theorem run_fnS {pins : List (Addr × Obj)} {σ : St} {H : Hp} {s : Shared} {Q : VK} {us : List Value} {vs : List V} (F : FnOk X.prog X.w X.K X.mg X.base (CX1 X.prog X.w) k f fd ps sp) (hr : Room k X.A) (hb : Binds X.K fd ps ds) (hd : Vals dvs ds) (hx : PassesS X E)
    (I : Inv X pins σ H s) (r : Vals vs us) (h : sp (vs ++ dvs) H Q (E σ)) : wpAny (model X.prog X.w) X.A (call (.ref f) us) (EP X pins σ Q) X.xe s := by
  have r2 : Vals (vs ++ dvs) (us ++ ds) := r.append hd
  have hl : (us ++ ds).length = ps.length := by rw [← r2.length]; exact F.len _ _ _ _ h
  refine wpAny_call (codeAny_mono (F.run X.A X.stack s H ⟨us, []⟩ (us ++ ds) (vs ++ dvs) Q (E σ) hr I.env0 (hb s us I.kIn hl) r2 h) fun r s' hq => ?_)
  cases r with
  | error e => exact hx pins σ H s e s' I hq
  | ok fl =>
    cases fl with
    | ret u => exact I.after hq
    | next => exact False.elim hq
    | brk => exact False.elim hq
    | cont => exact False.elim hq
theorem pe_callS (F : FnOk X.prog X.w X.K X.mg X.base (CX1 X.prog X.w) k f fd ps sp) (hr : Room k X.A) (hg : Gl X x) (hm : X.mg x = some (.ref f)) (hk : PySem.W.keepIn X.K (.ref f) = true) (hb : Binds X.K fd ps ds) (hd : Vals dvs ds) (hx : PassesS X E)
    (ha : PA X (e :: es) t) (hdb : (x == ("__debug__" : Str)) = false := by decide) (he : starEach (e :: es) X.env = (false, eval e X.env) :: starEach es X.env := by rfl) (hpl : (backTo pos (starEach es X.env)).any (·.1) = false := by rfl) :
    PE X (.Call (.Name x p) (e :: es) [] pos) (tCallS sp dvs E t) := by
  intro pins s σ H Q I h
  refine wpAny_Call_Name_kw (ld_glob I hg hm ?_ hdb)
  refine PySem.W.callWith_K (h₀ := X.base) I.ok.mod.kin hk (thn (ha pos pins s σ H _ I h) fun us s1 ⟨vs, H1, I1, r, q⟩ => ⟨I1.kIn, ?_⟩) he hpl
  exact run_fnS F hr hb hd hx I1 r q
end
end L2
namespace L2
open PySem PySem.Spec PyProof.Rows
section
variable {X : Cx}
def rCatS (K : PySem.W.Frag) : R2 := fun x y H Q => ∃ l b xs zs, x = .ref l ∧ y = .ref b ∧ SqL K H l xs ∧ SqL K H b zs ∧ xs.length + zs.length ≤ sizeLine ∧ ∀ p, H p = none → Q (.ref p) (upd H p (.lst (xs ++ zs)))
theorem op_catS : OpR X (binaryOp .Add) (rCatS X.K) := by
  intro pins s σ H x y v u Q I rx ry h
  obtain ⟨l, b, xs, zs, rfl, rfl, hl, hb, hz, q⟩ := h
  cases rx
  cases ry
  obtain ⟨its, r1, ⟨⟨c1, d1, a1, s1⟩, n1, e1, k1, _, t1⟩, _⟩ := I.list hl
  obtain ⟨its2, r2, ⟨⟨c2, d2, a2, s2⟩, n2, e2, k2, _, t2⟩, _⟩ := I.list hb
  simp only at k1 t1 k2 t2
  subst k1 t1 k2 t2
  have ez : its.toArray.size + its2.toArray.size ≤ sizeLine := by rw [List.size_toArray, List.size_toArray, ← r1.length, ← r2.length]; exact hz
  refine concat_meets ⟨_, e1, rfl⟩ ⟨_, e2, rfl⟩ noFill_list_add seq_list_add PySem.F.slot_list_add PySem.F.entry_list_add (PySem.F.args_list_add_2 _ _) (list_addW l b its.toArray its2.toArray n1 n2 d1 d2 s1 s2 ez) ⟨e1, e2, ?_⟩
  have ea : its.toArray ++ its2.toArray = (its ++ its2).toArray := by simp
  rw [ea]
  exact ⟨.ref _, _, I.lnew (t' := s.toks) (r1.append r2) (by rw [List.length_append]; omega), rfl, q _ I.fresh⟩
end
end L2
set_option maxHeartbeats 2000000
namespace L2
open PySem PySem.Spec PyProof.Rows
theorem IntsAre_get {ns : List Int} {us : List Value} (h : IntsAre us ns) : ∀ (i : Nat) (v : Value), us[i]? = some v → ∃ t, v = .int (ns.getD i 0) t := by
  induction h with
  | nil => intro i v e; simp at e
  | cons n t h ih =>
    intro i v e
    cases i with
    | zero =>
      simp at e
      exact ⟨t, by rw [← e]; rfl⟩
    | succ i =>
      rw [List.getElem?_cons_succ] at e
      obtain ⟨t2, rfl⟩ := ih i v e
      exact ⟨t2, rfl⟩
theorem IntsAre_len {ns : List Int} {us : List Value} (h : IntsAre us ns) : us.length = ns.length := by
  induction h with
  | nil => rfl
  | cons n t h ih => simp [ih]
theorem truth_ints {prog : Program} {w : World} {A : Around} {ns : List Int} {its : List Value} (e : IntsAre its ns) :
    TruthOf prog w A (fun i v => its.toArray[i]? = some v) (fun i => ns.getD i 0 != 0) := fun i v s Q E hv hq => by
  have hv' : its[i]? = some v := by simpa using hv
  obtain ⟨t, rfl⟩ := IntsAre_get e i v hv'
  exact PyProof.Rows.truthy_int hq
theorem any_rangeI : ∀ ns : List Int, (List.range ns.length).any (fun i => ns.getD i 0 != 0) = ns.any (fun z => z != 0)
  | [] => rfl
  | b :: bs => by
    rw [List.length_cons, List.range_succ_eq_map, List.any_cons, List.any_map, List.any_cons, ← any_rangeI bs]
    all_goals rfl
section
variable {X : Cx}
def rAnyI (K : PySem.W.Frag) : List V → Hp → VK → Prop := fun vs H Q => ∃ (a : Addr) (ns : List Int), vs = [V.ref a] ∧ SqL K H a (ns.map V.int) ∧ Q (.bl (ns.any fun z => z != 0)) H
theorem cr_anyI (hc : X.calm = true) : CallR X (.builtin "any") (rAnyI X.K) := by
  intro pins s σ H vs us Q I r h
  obtain ⟨a, ns, rfl, hs, q⟩ := h
  obtain ⟨its, rv, hl, _⟩ := I.list hs
  rw [Vals.ref1 r]
  have hb := rv.ints
  refine call_any_walk (iter_any hl.isList fun s₂ e2 st hne => ?_)
  subst e2
  refine ⟨_, _, _, _, _, _, _, rfl, Walks.list (A := X.A.in1) (I.ok.hd hc) _ a hne its.toArray, st, truth_ints hb, fun h' tk hk => ?_⟩
  refine ⟨.bl _, H, I.kept fun b o eo => hk b o (fun hmem => ?_) (Heap.get?_push_of_some _ eo), ?_, q⟩
  · rcases List.mem_cons.mp hmem with e1 | hmem
    · exact absurd (e1 ▸ Heap.lt_size eo) (Nat.lt_irrefl _)
    · cases hmem
  · show Value.bool _ = Value.bool _
    rw [← any_rangeI, List.size_toArray, IntsAre_len hb]
end
end L2
namespace Wg
def hiN (c n : Nat) : List Nat := (List.range c).map fun i => n / 256 ^ (c - 1 - i) % 256
theorem high_eq (c n : Nat) : (Sound.high c n).map UInt8.toNat = hiN c n := by
  unfold Sound.high hiN
  rw [List.map_map]
  refine List.map_congr_left fun i _ => ?_
  simp [UInt8.toNat_ofNat']
def fromN (l : List Nat) : Nat := l.foldl (fun n c => 256 * n + c) 0
theorem from_eq (b : Sound.Bytes) : Sound.fromHigh b = fromN (b.map UInt8.toNat) := by
  unfold Sound.fromHigh fromN
  rw [List.foldl_map]
def bitN (d : Nat) : Nat := if d % 2 = 1 then (d / 2) ^^^ 0xEDB88320 else d / 2
def STEPS : List Nat := [0, 498536548, 997073096, 651767980, 1994146192, 1802195444, 1303535960, 1342533948, 3988292384, 4027552580, 3604390888, 3412177804, 2607071920, 2262029012, 2685067896, 3183342108]
def nibN (c : Nat) : Nat := (c / 16) ^^^ STEPS.getD (c % 16) 0
def crcBN (c b : Nat) : Nat := nibN (nibN (c ^^^ b))
def crcN (l : List Nat) : Nat := (l.foldl crcBN 0xFFFFFFFF) ^^^ 0xFFFFFFFF
theorem xor_half (a b : Nat) : (a ^^^ b) / 2 = a / 2 ^^^ b / 2 := by
  have := Nat.shiftRight_xor_distrib (a := a) (b := b) (i := 1)
  simpa [Nat.shiftRight_eq_div_pow] using this
theorem bitN_xor (a b : Nat) : bitN (a ^^^ b) = bitN a ^^^ bitN b := by
  unfold bitN
  rw [xor_half]
  have h : (a ^^^ b) % 2 = (a % 2 + b % 2) % 2 := by
    have h1 := Nat.testBit_xor a b 0
    simp only [Nat.testBit_zero] at h1
    rcases Nat.mod_two_eq_zero_or_one a with ha | ha <;> rcases Nat.mod_two_eq_zero_or_one b with hb | hb <;> rcases Nat.mod_two_eq_zero_or_one (a ^^^ b) with hc | hc <;> rw [ha, hb, hc] at h1 <;> first | (rw [ha, hb, hc]; done) | (exact absurd h1 (by decide))
  rcases Nat.mod_two_eq_zero_or_one a with ha | ha <;> rcases Nat.mod_two_eq_zero_or_one b with hb | hb <;> simp only [h, ha, hb]
  · simp
  · simp [Nat.xor_assoc]
  · simp only [Nat.reduceAdd, Nat.reduceMod, if_true]
    rw [if_neg (by decide), Nat.xor_assoc, Nat.xor_assoc, Nat.xor_comm (b / 2)]
  · simp only [Nat.reduceAdd, Nat.reduceMod, if_true]
    rw [if_neg (by decide), Nat.xor_assoc, ← Nat.xor_assoc 3988292384, Nat.xor_comm 3988292384, Nat.xor_assoc (b / 2), Nat.xor_self, Nat.xor_zero]
theorem split16 (d : Nat) : d = (16 * (d / 16)) ^^^ (d % 16) := by
  apply Nat.eq_of_testBit_eq
  intro i
  have e : d = 2 ^ 4 * (d / 16) + d % 16 := by omega
  rw [Nat.testBit_xor, show (16 * (d / 16)) = 2 ^ 4 * (d / 16) by omega, Nat.testBit_two_pow_mul]
  conv => lhs; rw [e, Nat.testBit_two_pow_mul_add _ (by omega)]
  by_cases h : i < 4
  · rw [if_pos h, decide_eq_false (by omega)]; simp
  · rw [if_neg h, decide_eq_true (by omega), show (d % 16).testBit i = false from Nat.testBit_lt_two_pow (Nat.lt_of_lt_of_le (Nat.mod_lt d (by decide)) (by rw [show 16 = 2 ^ 4 by decide]; exact Nat.pow_le_pow_right (by decide) (by omega)))]; simp
theorem bitN_even (q : Nat) : bitN (2 * q) = q := by unfold bitN; rw [if_neg (by omega)]; omega
theorem nib_eq (d : Nat) : nibN d = bitN (bitN (bitN (bitN d))) := by
  have h : ∀ r : Nat, r < 16 → bitN (bitN (bitN (bitN r))) = STEPS.getD r 0 := by decide
  conv => rhs; rw [split16 d]
  simp only [bitN_xor]
  rw [h _ (Nat.mod_lt d (by decide)), show 16 * (d / 16) = 2 * (2 * (2 * (2 * (d / 16)))) by omega]
  simp only [bitN_even]
  rfl
theorem crcB_eq (c : Nat) (x : UInt8) : crcBN c x.toNat = Sound.crc32step c x := by
  unfold crcBN
  rw [nib_eq, nib_eq]
  rfl
theorem crc32_eq (b : Sound.Bytes) : crcN (b.map UInt8.toNat) = Sound.crc32 b := by
  unfold crcN Sound.crc32
  rw [List.foldl_map]
  congr 2
  funext c x
  exact crcB_eq c x
def powN (a : Nat) : Nat → Nat
  | 0 => a
  | k + 1 => Sound.times2 (powN a k)
def mulK (k a b : Nat) : Nat := ((List.range k).foldl (fun (x : Nat × Nat) (i : Nat) => (if b.testBit i = true then x.1 ^^^ x.2 else x.1, Sound.times2 x.2)) (0, a)).1
theorem mulK_two (k a b : Nat) : ((List.range k).foldl (fun (x : Nat × Nat) (i : Nat) => (if b.testBit i = true then x.1 ^^^ x.2 else x.1, Sound.times2 x.2)) (0, a)).2 = powN a k := by
  induction k with
  | zero => rfl
  | succ k ih => rw [List.range_succ, List.foldl_append]; simp only [List.foldl_cons, List.foldl_nil, ih]; rfl
theorem mulK_succ (k a b : Nat) : mulK (k + 1) a b = if b.testBit k = true then mulK k a b ^^^ powN a k else mulK k a b := by
  unfold mulK
  rw [List.range_succ, List.foldl_append]
  simp only [List.foldl_cons, List.foldl_nil, mulK_two]
theorem mulK_low (k a b c : Nat) (h : ∀ i, i < k → b.testBit i = c.testBit i) : mulK k a b = mulK k a c := by
  induction k with
  | zero => rfl
  | succ k ih => rw [mulK_succ, mulK_succ, h k (by omega), ih fun i hi => h i (by omega)]
def tabN (a k : Nat) : List Nat := (List.range (2 ^ k)).map (mulK k a)
theorem tabN_succ (a k : Nat) : tabN a (k + 1) = tabN a k ++ (tabN a k).map (fun p => p ^^^ powN a k) := by
  unfold tabN
  rw [show 2 ^ (k + 1) = 2 ^ k + 2 ^ k by rw [Nat.pow_succ]; omega, List.range_add, List.map_append, List.map_map, List.map_map]
  congr 1
  · refine List.map_congr_left fun b hb => ?_
    rw [mulK_succ, Nat.testBit_lt_two_pow (List.mem_range.mp hb)]
    simp
  · refine List.map_congr_left fun b hb => ?_
    have hb := List.mem_range.mp hb
    show mulK (k + 1) a (2 ^ k + b) = mulK k a b ^^^ powN a k
    have t : ∀ j, (2 ^ k + b).testBit j = if j < k then b.testBit j else (1 : Nat).testBit (j - k) := fun j => by
      have := Nat.testBit_two_pow_mul_add 1 hb j
      rwa [Nat.mul_one] at this
    rw [mulK_succ, t k, if_neg (Nat.lt_irrefl _), Nat.sub_self, if_pos (by decide), mulK_low k a (2 ^ k + b) b fun i hi => by rw [t i, if_pos hi]]
theorem times2_lt {a : Nat} (h : a < 256) : Sound.times2 a < 256 := by
  have : ∀ a : Nat, a < 256 → Sound.times2 a < 256 := by decide +kernel
  exact this a h
theorem powN_lt {a : Nat} (h : a < 256) : ∀ k, powN a k < 256
  | 0 => h
  | k + 1 => times2_lt (powN_lt h k)
theorem mulK_lt {a : Nat} (h : a < 256) (b : Nat) : ∀ k, mulK k a b < 256
  | 0 => by show 0 < 256; decide
  | k + 1 => by
    rw [mulK_succ]
    split
    · exact Nat.xor_lt_two_pow (n := 8) (mulK_lt h b k) (powN_lt h k)
    · exact mulK_lt h b k
theorem mul_lt {a : Nat} (h : a < 256) (b : Nat) : Sound.mul a b < 256 := mulK_lt h b 8
end Wg
namespace Wg
theorem mulK_xor (a b c : Nat) : ∀ k, mulK k a (b ^^^ c) = mulK k a b ^^^ mulK k a c
  | 0 => by show 0 = 0 ^^^ 0; rfl
  | k + 1 => by
    rw [mulK_succ, mulK_succ, mulK_succ, Nat.testBit_xor, mulK_xor a b c k]
    cases b.testBit k <;> cases c.testBit k <;> simp
    · rw [Nat.xor_assoc]
    · rw [Nat.xor_assoc, Nat.xor_assoc, Nat.xor_comm (powN a k)]
    · rw [Nat.xor_assoc, ← Nat.xor_assoc (powN a k), Nat.xor_comm (powN a k), Nat.xor_assoc (mulK k a c), Nat.xor_self, Nat.xor_zero]
theorem mul_xor (a b c : Nat) : Sound.mul a (b ^^^ c) = Sound.mul a b ^^^ Sound.mul a c := mulK_xor a b c 8
theorem mul_zero (a : Nat) : Sound.mul a 0 = 0 := by
  have := mul_xor a 0 0
  rw [Nat.xor_self, Nat.xor_self] at this
  exact this
theorem inv_all : ∀ a : Nat, a < 256 → a ≠ 0 → Sound.inverse a < 256 ∧ Sound.mul a (Sound.inverse a) = 1 ∧ ∀ i, i < 8 → Sound.mul (Sound.inverse a) (Sound.mul a (2 ^ i)) = 2 ^ i := by decide +kernel
theorem top_bit {b k : Nat} (h : b < 2 ^ (k + 1)) : b = (b % 2 ^ k) ^^^ (if b.testBit k = true then 2 ^ k else 0) := by
  apply Nat.eq_of_testBit_eq
  intro i
  rw [Nat.testBit_xor, Nat.testBit_mod_two_pow]
  rcases Nat.lt_trichotomy i k with q | q | q
  · rw [decide_eq_true q]
    split
    · rw [Nat.testBit_two_pow, decide_eq_false (by omega)]; simp
    · simp
  · subst q
    rw [decide_eq_false (Nat.lt_irrefl _)]
    cases e : b.testBit i <;> simp [Nat.testBit_two_pow]
  · rw [decide_eq_false (by omega), Nat.testBit_lt_two_pow (Nat.lt_of_lt_of_le h (Nat.pow_le_pow_right (by decide) q))]
    split
    · rw [Nat.testBit_two_pow, decide_eq_false (by omega)]; rfl
    · simp
theorem inv_left {a : Nat} (ha : a < 256) (h0 : a ≠ 0) : ∀ k, k ≤ 8 → ∀ b, b < 2 ^ k → Sound.mul (Sound.inverse a) (Sound.mul a b) = b
  | 0, _, b, hb => by
    have : b = 0 := by simp at hb; exact hb
    rw [this, mul_zero, mul_zero]
  | k + 1, hk, b, hb => by
    conv => lhs; rw [top_bit hb]
    rw [mul_xor, mul_xor, inv_left ha h0 k (by omega) _ (Nat.mod_lt _ (Nat.two_pow_pos k))]
    conv => rhs; rw [top_bit hb]
    congr 1
    split
    · exact (inv_all a ha h0).2.2 k (by omega)
    · rw [mul_zero, mul_zero]
theorem mul_inj {a : Nat} (ha : a < 256) (h0 : a ≠ 0) {b c : Nat} (hb : b < 256) (hc : c < 256) (h : Sound.mul a b = Sound.mul a c) : b = c := by
  rw [← inv_left ha h0 8 (Nat.le_refl _) b hb, ← inv_left ha h0 8 (Nat.le_refl _) c hc, h]
theorem inv_first {a : Nat} (ha : a < 256) (h0 : a ≠ 0) : Sound.inverse a < 256 ∧ Sound.mul a (Sound.inverse a) = 1 ∧ ∀ b, b < Sound.inverse a → Sound.mul a b ≠ 1 := by
  obtain ⟨h1, h2, _⟩ := inv_all a ha h0
  refine ⟨h1, h2, fun b hb e => ?_⟩
  have := mul_inj ha h0 (by omega) h1 (e.trans h2.symm)
  omega
theorem factor_ok : ∀ i : Nat, i < 8 → ∀ j : Nat, j < 4 → i ^^^ (128 + j) < 256 ∧ i ^^^ (128 + j) ≠ 0 := by decide
end Wg
namespace Wg
open PySem
theorem and_lo (n m : Nat) : (n &&& m) % 2 = 0 ↔ n % 2 = 0 ∨ m % 2 = 0 := by
  have h := congrArg (· = true) (Nat.testBit_and n m 0)
  simp only [Nat.testBit_zero, Bool.and_eq_true, decide_eq_true_eq, eq_iff_iff] at h
  omega
theorem or_lo (n m : Nat) : (n ||| m) % 2 = 0 ↔ n % 2 = 0 ∧ m % 2 = 0 := by
  have h := congrArg (· = true) (Nat.testBit_or n m 0)
  simp only [Nat.testBit_zero, Bool.or_eq_true, decide_eq_true_eq, eq_iff_iff] at h
  omega
theorem and_hi (n m : Nat) : (n &&& m) / 2 = n / 2 &&& m / 2 := by
  apply Nat.eq_of_testBit_eq; intro i
  rw [Nat.testBit_and, Nat.testBit_div_two, Nat.testBit_div_two, Nat.testBit_div_two, Nat.testBit_and]
theorem or_hi (n m : Nat) : (n ||| m) / 2 = n / 2 ||| m / 2 := by
  apply Nat.eq_of_testBit_eq; intro i
  rw [Nat.testBit_or, Nat.testBit_div_two, Nat.testBit_div_two, Nat.testBit_div_two, Nat.testBit_or]
theorem or_pp {x y : Int} (hx : 0 ≤ x) (hy : 0 ≤ y) : Builtin.bitOr x y = ((x.toNat ||| y.toNat : Nat) : Int) := by
  unfold Builtin.bitOr Builtin.bitAnd Builtin.bitNot
  have h1 : decide (0 ≤ -x - 1) = false := by simp; omega
  have h2 : decide (0 ≤ -y - 1) = false := by simp; omega
  simp only [h1, h2]
  have e1 : (-(-x - 1) - 1).toNat = x.toNat := by congr 1; omega
  have e2 : (-(-y - 1) - 1).toNat = y.toNat := by congr 1; omega
  rw [e1, e2]; omega
end Wg
namespace Wg
open PySem Sound
def bl (n : Nat) : Nat := if n = 0 then 0 else n.log2 + 1
theorem bl_int (n : Nat) : Builtin.Int.intBits (n : Int) = bl n := by
  unfold Builtin.Int.intBits bl
  by_cases h : n = 0
  · subst h; rfl
  · rw [if_neg h, if_neg (by simpa using h), Int.natAbs_natCast]
theorem bl_le {n v : Nat} (h : n < 2 ^ v) : bl n ≤ v := by
  unfold bl
  by_cases h0 : n = 0
  · rw [if_pos h0]; exact Nat.zero_le _
  · rw [if_neg h0]
    exact (Nat.log2_lt h0).mpr h
end Wg
namespace Wg
open PySem
theorem bitOr_nat (a b : Nat) : Builtin.bitOr (a : Int) (b : Int) = ((a ||| b : Nat) : Int) := by
  rw [or_pp (by omega) (by omega), Int.toNat_natCast, Int.toNat_natCast]
theorem bitAnd_nat (a b : Nat) : Builtin.bitAnd (a : Int) (b : Int) = ((a &&& b : Nat) : Int) := by
  unfold Builtin.bitAnd
  have h1 : decide (0 ≤ (a : Int)) = true := by simp
  have h2 : decide (0 ≤ (b : Int)) = true := by simp
  simp only [h1, h2, Int.toNat_natCast]
theorem xor_lo (n m : Nat) : (n ^^^ m) % 2 = (n + m) % 2 := by
  have h := Nat.testBit_xor n m 0
  simp only [Nat.testBit_zero] at h
  rcases Nat.mod_two_eq_zero_or_one n with a | a <;> rcases Nat.mod_two_eq_zero_or_one m with b | b <;> rw [a, b] at h
  · have : ¬ (n ^^^ m) % 2 = 1 := of_decide_eq_false h
    omega
  · have : (n ^^^ m) % 2 = 1 := of_decide_eq_true h
    omega
  · have : (n ^^^ m) % 2 = 1 := of_decide_eq_true h
    omega
  · have : ¬ (n ^^^ m) % 2 = 1 := of_decide_eq_false h
    omega
theorem xor_hi (n m : Nat) : (n ^^^ m) / 2 = n / 2 ^^^ m / 2 := by
  apply Nat.eq_of_testBit_eq; intro i
  rw [Nat.testBit_xor, Nat.testBit_div_two, Nat.testBit_div_two, Nat.testBit_div_two, Nat.testBit_xor]
theorem or_xor : ∀ (k n m : Nat), n ≤ k → m ≤ k → (n ||| m) = (n ^^^ m) + (n &&& m)
  | 0, n, m, h1, h2 => by
    have : n = 0 := by omega
    have : m = 0 := by omega
    subst n m; rfl
  | k + 1, n, m, h1, h2 => by
    by_cases h0 : n = 0 ∧ m = 0
    · obtain ⟨rfl, rfl⟩ := h0; rfl
    have ih := or_xor k (n / 2) (m / 2) (by omega) (by omega)
    have a1 := or_lo n m
    have a2 := xor_lo n m
    have a3 := and_lo n m
    have b1 := or_hi n m
    have b2 := xor_hi n m
    have b3 := and_hi n m
    omega
theorem bitXor_nat (a b : Nat) : Builtin.bitXor (a : Int) (b : Int) = ((a ^^^ b : Nat) : Int) := by
  unfold Builtin.bitXor
  rw [bitOr_nat, bitAnd_nat, or_xor (max a b) a b (by omega) (by omega)]
  omega
theorem mask (x : Int) (w : Nat) : Builtin.bitAnd x ((2 ^ w : Int) - 1) = x % 2 ^ w := by
  have hp : 0 < 2 ^ w := Nat.two_pow_pos w
  have e2 : ((2 : Int) ^ w) = ((2 ^ w : Nat) : Int) := by simp
  have e1 : (2 : Int) ^ w - 1 = ((2 ^ w - 1 : Nat) : Int) := by rw [e2]; omega
  rcases Int.lt_or_le x 0 with hx | hx
  · unfold Builtin.bitAnd Builtin.bitNot
    have h1 : decide (0 ≤ x) = false := by simp; omega
    have h2 : decide (0 ≤ (2 : Int) ^ w - 1) = true := by rw [e1]; simp
    simp only [h1, h2]
    rw [e1, Int.toNat_natCast, Nat.and_comm, Nat.and_two_pow_sub_one_eq_mod]
    generalize hm : (-x - 1).toNat = m
    have hd := Nat.div_add_mod m (2 ^ w)
    have hlt := Nat.mod_lt m hp
    rw [e2]
    have ex : x = ((2 ^ w - 1 - m % 2 ^ w : Nat) : Int) + ((2 ^ w : Nat) : Int) * (-((m / 2 ^ w : Nat) : Int) - 1) := by
      have : ((2 ^ w : Nat) : Int) * (-((m / 2 ^ w : Nat) : Int) - 1) = -((2 ^ w * (m / 2 ^ w) : Nat) : Int) - ((2 ^ w : Nat) : Int) := by
        rw [Int.mul_sub, Int.mul_neg, ← Int.natCast_mul, Int.mul_one]
      rw [this]
      omega
    have : x % ((2 ^ w : Nat) : Int) = ((2 ^ w - 1 - m % 2 ^ w : Nat) : Int) := by
      rw [ex, Int.add_mul_emod_self_left]
      exact Int.emod_eq_of_lt (by omega) (by omega)
    rw [this]
    omega
  · obtain ⟨n, rfl⟩ := Int.eq_ofNat_of_zero_le hx
    rw [e1, bitAnd_nat, Nat.and_two_pow_sub_one_eq_mod, e2]
    simp
theorem and255 (n : Nat) : Builtin.bitAnd (n : Int) 255 = ((n % 256 : Nat) : Int) := by
  have := mask (n : Int) 8
  have e : (2 : Int) ^ 8 = 256 := by decide
  rw [e] at this
  rw [show (255 : Int) = 256 - 1 by decide, this]
  simp
end Wg
namespace Wg
def chG (inv : Nat → Nat) (M : List (List Nat)) (c : Nat) : List Nat := (M.getD c []).map (Sound.mul (inv ((M.getD c []).getD c 0)))
def stepG (inv : Nat → Nat) (M : List (List Nat)) (c : Nat) : List (List Nat) := M.mapIdx fun i r => if i = c then chG inv M c else Sound.added r ((chG inv M c).map (Sound.mul (r.getD c 0)))
def pivsG (inv : Nat → Nat) : Nat → Nat → List (List Nat) → Bool
  | 0, _, _ => true
  | n + 1, c, M => ((M.getD c []).getD c 0 != 0) && pivsG inv n (c + 1) (stepG inv M c)
def stepsG : Nat → Nat → List (List Nat) → List (List Nat)
  | 0, _, M => M
  | n + 1, c, M => stepsG n (c + 1) (stepG Sound.inverse M c)
def subs (n : Nat) : List (List Nat) := match n with
  | 0 => [[]]
  | n + 1 => (List.range 8).flatMap fun i => ((subs n).filter fun l => l.all fun x => decide (i < x)).map (i :: ·)
def arrs (n : Nat) : List (List Nat) := match n with
  | 0 => [[]]
  | n + 1 => (List.range 4).flatMap fun i => ((arrs n).filter fun l => l.all fun x => decide (i ≠ x)).map (i :: ·)
def INVN : Nat := 0xfd7eff7f75e8d442c9d38f03eab5e7e36ab2216db4f374faf1e2b186f0e63f1491190a9978767310d6d743f9f6c871293aa87d855a62f7d29ea3b86535a55912b6ae9a957b0764c5afbff2eb6beee587b7be089c3c0d3bce0546c234c69f821ca2c709ac94bddc0b5c0fbc9b4f44df18f50269532d273149b0e4cc7c1da1541bfcfecd84bb0677db79dafbe9d911d128322fec20b3ef8d524d17c4b95bca572441370e9763cbc11361251a818c682338934567161e2b883004a64e92d5f85f36e1150caba9cf22505e40c3a42e6f89486e338b264a1fd0708a2c56605139ed6c2a4b83a08055de90664c3ee058c072d8965daa3d98dd9dadba7aa747f48e0100
def invQ (a : Nat) : Nat := (INVN >>> (8 * a)) % 256
theorem invQ_eq : ∀ a : Nat, a < 256 → Sound.inverse a = invQ a := by decide +kernel
def FT : List Nat := [27, 84, 161, 29, 124, 204, 228, 176]
theorem fac_eq : ∀ i : Nat, i < 8 → ∀ j : Nat, j < 4 → Sound.factor i j = FT.getD (i ^^^ j) 0 := by decide +kernel
def pivsOf (n : Nat) (js : List Nat) : Bool := (subs n).all fun lost => pivsG invQ n 0 (js.map fun j => lost.map fun i => FT.getD (i ^^^ j) 0)
theorem piv1 : ∀ js ∈ arrs 1, pivsOf 1 js = true := by decide +kernel
theorem piv2 : ∀ js ∈ arrs 2, pivsOf 2 js = true := by decide +kernel
theorem piv3_0 : pivsOf 3 [0, 1, 2] = true := by decide +kernel
theorem piv3_1 : pivsOf 3 [0, 1, 3] = true := by decide +kernel
theorem piv3_2 : pivsOf 3 [0, 2, 1] = true := by decide +kernel
theorem piv3_3 : pivsOf 3 [0, 2, 3] = true := by decide +kernel
theorem piv3_4 : pivsOf 3 [0, 3, 1] = true := by decide +kernel
theorem piv3_5 : pivsOf 3 [0, 3, 2] = true := by decide +kernel
theorem piv3_6 : pivsOf 3 [1, 0, 2] = true := by decide +kernel
theorem piv3_7 : pivsOf 3 [1, 0, 3] = true := by decide +kernel
theorem piv3_8 : pivsOf 3 [1, 2, 0] = true := by decide +kernel
theorem piv3_9 : pivsOf 3 [1, 2, 3] = true := by decide +kernel
theorem piv3_10 : pivsOf 3 [1, 3, 0] = true := by decide +kernel
theorem piv3_11 : pivsOf 3 [1, 3, 2] = true := by decide +kernel
theorem piv3_12 : pivsOf 3 [2, 0, 1] = true := by decide +kernel
theorem piv3_13 : pivsOf 3 [2, 0, 3] = true := by decide +kernel
theorem piv3_14 : pivsOf 3 [2, 1, 0] = true := by decide +kernel
theorem piv3_15 : pivsOf 3 [2, 1, 3] = true := by decide +kernel
theorem piv3_16 : pivsOf 3 [2, 3, 0] = true := by decide +kernel
theorem piv3_17 : pivsOf 3 [2, 3, 1] = true := by decide +kernel
theorem piv3_18 : pivsOf 3 [3, 0, 1] = true := by decide +kernel
theorem piv3_19 : pivsOf 3 [3, 0, 2] = true := by decide +kernel
theorem piv3_20 : pivsOf 3 [3, 1, 0] = true := by decide +kernel
theorem piv3_21 : pivsOf 3 [3, 1, 2] = true := by decide +kernel
theorem piv3_22 : pivsOf 3 [3, 2, 0] = true := by decide +kernel
theorem piv3_23 : pivsOf 3 [3, 2, 1] = true := by decide +kernel
theorem arrs3 : arrs 3 = [[0, 1, 2], [0, 1, 3], [0, 2, 1], [0, 2, 3], [0, 3, 1], [0, 3, 2], [1, 0, 2], [1, 0, 3], [1, 2, 0], [1, 2, 3], [1, 3, 0], [1, 3, 2], [2, 0, 1], [2, 0, 3], [2, 1, 0], [2, 1, 3], [2, 3, 0], [2, 3, 1], [3, 0, 1], [3, 0, 2], [3, 1, 0], [3, 1, 2], [3, 2, 0], [3, 2, 1]] := by decide +kernel
theorem piv3 : ∀ js ∈ arrs 3, pivsOf 3 js = true := by
  rw [arrs3]
  simp only [List.mem_cons, List.not_mem_nil, or_false, forall_eq_or_imp, forall_eq, piv3_0, piv3_1, piv3_2, piv3_3, piv3_4, piv3_5, piv3_6, piv3_7, piv3_8, piv3_9, piv3_10, piv3_11, piv3_12, piv3_13, piv3_14, piv3_15, piv3_16, piv3_17, piv3_18, piv3_19, piv3_20, piv3_21, piv3_22, piv3_23, and_self]
theorem piv4_0 : pivsOf 4 [0, 1, 2, 3] = true := by decide +kernel
theorem piv4_1 : pivsOf 4 [0, 1, 3, 2] = true := by decide +kernel
theorem piv4_2 : pivsOf 4 [0, 2, 1, 3] = true := by decide +kernel
theorem piv4_3 : pivsOf 4 [0, 2, 3, 1] = true := by decide +kernel
theorem piv4_4 : pivsOf 4 [0, 3, 1, 2] = true := by decide +kernel
theorem piv4_5 : pivsOf 4 [0, 3, 2, 1] = true := by decide +kernel
theorem piv4_6 : pivsOf 4 [1, 0, 2, 3] = true := by decide +kernel
theorem piv4_7 : pivsOf 4 [1, 0, 3, 2] = true := by decide +kernel
theorem piv4_8 : pivsOf 4 [1, 2, 0, 3] = true := by decide +kernel
theorem piv4_9 : pivsOf 4 [1, 2, 3, 0] = true := by decide +kernel
theorem piv4_10 : pivsOf 4 [1, 3, 0, 2] = true := by decide +kernel
theorem piv4_11 : pivsOf 4 [1, 3, 2, 0] = true := by decide +kernel
theorem piv4_12 : pivsOf 4 [2, 0, 1, 3] = true := by decide +kernel
theorem piv4_13 : pivsOf 4 [2, 0, 3, 1] = true := by decide +kernel
theorem piv4_14 : pivsOf 4 [2, 1, 0, 3] = true := by decide +kernel
theorem piv4_15 : pivsOf 4 [2, 1, 3, 0] = true := by decide +kernel
theorem piv4_16 : pivsOf 4 [2, 3, 0, 1] = true := by decide +kernel
theorem piv4_17 : pivsOf 4 [2, 3, 1, 0] = true := by decide +kernel
theorem piv4_18 : pivsOf 4 [3, 0, 1, 2] = true := by decide +kernel
theorem piv4_19 : pivsOf 4 [3, 0, 2, 1] = true := by decide +kernel
theorem piv4_20 : pivsOf 4 [3, 1, 0, 2] = true := by decide +kernel
theorem piv4_21 : pivsOf 4 [3, 1, 2, 0] = true := by decide +kernel
theorem piv4_22 : pivsOf 4 [3, 2, 0, 1] = true := by decide +kernel
theorem piv4_23 : pivsOf 4 [3, 2, 1, 0] = true := by decide +kernel
theorem arrs4 : arrs 4 = [[0, 1, 2, 3], [0, 1, 3, 2], [0, 2, 1, 3], [0, 2, 3, 1], [0, 3, 1, 2], [0, 3, 2, 1], [1, 0, 2, 3], [1, 0, 3, 2], [1, 2, 0, 3], [1, 2, 3, 0], [1, 3, 0, 2], [1, 3, 2, 0], [2, 0, 1, 3], [2, 0, 3, 1], [2, 1, 0, 3], [2, 1, 3, 0], [2, 3, 0, 1], [2, 3, 1, 0], [3, 0, 1, 2], [3, 0, 2, 1], [3, 1, 0, 2], [3, 1, 2, 0], [3, 2, 0, 1], [3, 2, 1, 0]] := by decide +kernel
theorem piv4 : ∀ js ∈ arrs 4, pivsOf 4 js = true := by
  rw [arrs4]
  simp only [List.mem_cons, List.not_mem_nil, or_false, forall_eq_or_imp, forall_eq, piv4_0, piv4_1, piv4_2, piv4_3, piv4_4, piv4_5, piv4_6, piv4_7, piv4_8, piv4_9, piv4_10, piv4_11, piv4_12, piv4_13, piv4_14, piv4_15, piv4_16, piv4_17, piv4_18, piv4_19, piv4_20, piv4_21, piv4_22, piv4_23, and_self]
theorem arrs5 : arrs 5 = [] := by decide +kernel
end Wg
namespace Wg
theorem subs_mem : ∀ l : List Nat, l.Pairwise (· < ·) → (∀ x ∈ l, x < 8) → l ∈ subs l.length
  | [], _, _ => by simp [subs]
  | i :: l, h, hx => by
    rw [List.pairwise_cons] at h
    have ih := subs_mem l h.2 fun x hm => hx x (List.mem_cons_of_mem _ hm)
    rw [List.length_cons]
    unfold subs
    refine List.mem_flatMap.mpr ⟨i, List.mem_range.mpr (hx i (List.mem_cons_self ..)), List.mem_map.mpr ⟨l, List.mem_filter.mpr ⟨ih, ?_⟩, rfl⟩⟩
    rw [List.all_eq_true]
    exact fun x hm => decide_eq_true (h.1 x hm)
theorem arrs_mem : ∀ l : List Nat, l.Pairwise (· ≠ ·) → (∀ x ∈ l, x < 4) → l ∈ arrs l.length
  | [], _, _ => by simp [arrs]
  | i :: l, h, hx => by
    rw [List.pairwise_cons] at h
    have ih := arrs_mem l h.2 fun x hm => hx x (List.mem_cons_of_mem _ hm)
    rw [List.length_cons]
    unfold arrs
    refine List.mem_flatMap.mpr ⟨i, List.mem_range.mpr (hx i (List.mem_cons_self ..)), List.mem_map.mpr ⟨l, List.mem_filter.mpr ⟨ih, ?_⟩, rfl⟩⟩
    rw [List.all_eq_true]
    exact fun x hm => decide_eq_true (h.1 x hm)
theorem arrs_le {l : List Nat} (h : l.Pairwise (· ≠ ·)) (hx : ∀ x ∈ l, x < 4) : l.length ≤ 4 := by
  refine Nat.le_of_not_lt fun z => ?_
  have := arrs_mem (l.take 5) (h.sublist (List.take_sublist ..)) fun x hm => hx x (List.mem_of_mem_take hm)
  rw [List.length_take, Nat.min_eq_left (by omega), arrs5] at this
  cases this
theorem pivs_all {n : Nat} (h : n ≤ 4) : ∀ js ∈ arrs n, pivsOf n js = true := by
  match n, h with
  | 0, _ => exact by decide
  | 1, _ => exact piv1
  | 2, _ => exact piv2
  | 3, _ => exact piv3
  | 4, _ => exact piv4
def Byt (M : List (List Nat)) : Prop := ∀ r ∈ M, ∀ x ∈ r, x < 256
theorem getD_lt0 {l : List Nat} {m i : Nat} (h : ∀ x ∈ l, x < m) (h0 : 0 < m) : l.getD i 0 < m := by
  rw [List.getD_eq_getElem?_getD]
  cases e : l[i]? with
  | none => exact h0
  | some x => exact h x (List.mem_of_getElem? e)
theorem getD_row {M : List (List Nat)} (h : Byt M) (c : Nat) : ∀ x ∈ M.getD c [], x < 256 := by
  rw [List.getD_eq_getElem?_getD]
  cases e : M[c]? with
  | none => intro x hx; cases hx
  | some r => exact h r (List.mem_of_getElem? e)
theorem chG_eq {M : List (List Nat)} (h : Byt M) (c : Nat) : chG Sound.inverse M c = chG invQ M c := by
  unfold chG
  rw [invQ_eq _ (getD_lt0 (getD_row h c) (by decide))]
theorem stepG_eq {M : List (List Nat)} (h : Byt M) (c : Nat) : stepG Sound.inverse M c = stepG invQ M c := by
  unfold stepG
  rw [chG_eq h]
theorem invQ_lt (a : Nat) : invQ a < 256 := Nat.mod_lt _ (by decide)
theorem added_lt' {a b : List Nat} (ha : ∀ x ∈ a, x < 256) (hb : ∀ x ∈ b, x < 256) : ∀ x ∈ Sound.added a b, x < 256 := fun x hx => by
  unfold Sound.added at hx
  obtain ⟨i, hi, rfl⟩ := List.getElem_of_mem hx
  rw [List.length_zipWith] at hi
  rw [List.getElem_zipWith]
  exact Nat.xor_lt_two_pow (n := 8) (ha _ (List.getElem_mem (by omega))) (hb _ (List.getElem_mem (by omega)))
theorem scaled_lt {k : Nat} (hk : k < 256) (l : List Nat) : ∀ x ∈ l.map (Sound.mul k), x < 256 := fun x hx => by
  obtain ⟨y, _, rfl⟩ := List.mem_map.mp hx
  exact mul_lt hk y
theorem stepQ_byt {M : List (List Nat)} (h : Byt M) (c : Nat) : Byt (stepG invQ M c) := fun r hr => by
  unfold stepG at hr
  obtain ⟨i, hi, rfl⟩ := List.mem_mapIdx.mp hr
  split
  · exact scaled_lt (invQ_lt _) _
  · exact added_lt' (h _ (List.getElem_mem hi)) (scaled_lt (getD_lt0 (h _ (List.getElem_mem hi)) (by decide)) _)
theorem step_byt {M : List (List Nat)} (h : Byt M) (c : Nat) : Byt (stepG Sound.inverse M c) := by rw [stepG_eq h]; exact stepQ_byt h c
theorem pivsG_eq : ∀ (n c : Nat) (M : List (List Nat)), Byt M → pivsG Sound.inverse n c M = pivsG invQ n c M
  | 0, _, _, _ => rfl
  | n + 1, c, M, h => by
    unfold pivsG
    rw [stepG_eq h, pivsG_eq n (c + 1) _ (stepQ_byt h c)]
theorem getD_take {l : List Nat} {n c : Nat} (h : c < n) : (l.take n).getD c 0 = l.getD c 0 := by
  rw [List.getD_eq_getElem?_getD, List.getD_eq_getElem?_getD, List.getElem?_take, if_pos h]
theorem getD_mtake (M : List (List Nat)) (n c : Nat) : (M.map (List.take n)).getD c [] = (M.getD c []).take n := by
  rw [List.getD_eq_getElem?_getD, List.getD_eq_getElem?_getD, List.getElem?_map]
  cases M[c]? <;> simp
theorem chG_take {inv : Nat → Nat} (M : List (List Nat)) {n c : Nat} (h : c < n) : chG inv (M.map (List.take n)) c = (chG inv M c).take n := by
  unfold chG
  rw [getD_mtake, getD_take h, List.map_take]
theorem stepG_take {inv : Nat → Nat} (M : List (List Nat)) {n c : Nat} (h : c < n) : stepG inv (M.map (List.take n)) c = (stepG inv M c).map (List.take n) := by
  unfold stepG
  rw [chG_take M h]
  refine List.ext_getElem (by simp) fun i h1 h2 => ?_
  simp only [List.getElem_mapIdx, List.getElem_map]
  split
  · rfl
  · rw [getD_take h]
    unfold Sound.added
    rw [List.take_zipWith, List.map_take]
theorem pivsG_take {inv : Nat → Nat} : ∀ (k c n : Nat) (M : List (List Nat)), c + k ≤ n → pivsG inv k c (M.map (List.take n)) = pivsG inv k c M
  | 0, _, _, _, _ => rfl
  | k + 1, c, n, M, h => by
    unfold pivsG
    rw [stepG_take M (by omega), pivsG_take k (c + 1) n _ (by omega), getD_mtake, getD_take (by omega)]
theorem piv_ok {lost js : List Nat} {M : List (List Nat)} (hl : lost.Pairwise (· < ·)) (hl8 : ∀ x ∈ lost, x < 8) (hj : js.Pairwise (· ≠ ·)) (hj4 : ∀ x ∈ js, x < 4) (hn : js.length = lost.length) (hb : Byt M)
    (hM : M.map (List.take lost.length) = js.map fun j => lost.map fun i => Sound.factor i j) : pivsG Sound.inverse lost.length 0 M = true := by
  rw [pivsG_eq _ _ _ hb, ← pivsG_take _ _ lost.length _ (by omega), hM]
  have h4 := arrs_le hj hj4
  have e : (js.map fun j => lost.map fun i => Sound.factor i j) = js.map fun j => lost.map fun i => FT.getD (i ^^^ j) 0 := List.map_congr_left fun j hjm => List.map_congr_left fun i him => fac_eq i (hl8 i him) j (hj4 j hjm)
  rw [e]
  have := pivs_all (n := lost.length) (by omega) js (by rw [← hn]; exact arrs_mem js hj hj4)
  unfold pivsOf at this
  rw [List.all_eq_true] at this
  exact this lost (subs_mem lost hl hl8)
def rowE (e : Sound.Eqn) : List Nat := e.fs ++ e.row
theorem rowE_less {n k : Nat} {x p : Sound.Eqn} (hx : x.fs.length = n) (hp : p.fs.length = n) : rowE (Sound.lessEqn k x p) = Sound.added (rowE x) ((rowE p).map (Sound.mul k)) := by
  unfold rowE Sound.lessEqn Sound.added Sound.scaled
  rw [List.map_append, List.zipWith_append (by rw [List.length_map]; omega)]
theorem rowE_get {x : Sound.Eqn} {c : Nat} (h : c < x.fs.length) : (rowE x).getD c 0 = x.fs.getD c 0 := by
  unfold rowE
  rw [List.getD_eq_getElem?_getD, List.getD_eq_getElem?_getD, List.getElem?_append_left h]
theorem less_len {n k : Nat} {x p : Sound.Eqn} (hx : x.fs.length = n) (hp : p.fs.length = n) : (Sound.lessEqn k x p).fs.length = n := by
  unfold Sound.lessEqn Sound.added Sound.scaled
  simp [hx, hp]
theorem solve_eq (n : Nat) : ∀ (k c : Nat) (done es : List Sound.Eqn), done.length = c → es.length = k → c + k = n → (∀ e ∈ done, e.fs.length = n) → (∀ e ∈ es, e.fs.length = n) → pivsG Sound.inverse k c ((done ++ es).map rowE) = true →
    ∃ out, Sound.solve k c done es = some out ∧ out.map rowE = stepsG k c ((done ++ es).map rowE) ∧ (∀ e ∈ out, e.fs.length = n) ∧ out.length = n
  | 0, c, done, es, hd, he, hn, h1, h2, _ => by
    have : es = [] := List.length_eq_zero_iff.mp he
    subst this
    exact ⟨done, rfl, by rw [List.append_nil]; rfl, h1, by omega⟩
  | k + 1, c, done, [], hd, he, hn, h1, h2, _ => by simp at he
  | k + 1, c, done, e :: es, hd, he, hn, h1, h2, hp => by
    have hef : e.fs.length = n := h2 e (List.mem_cons_self ..)
    have hge : ((done ++ e :: es).map rowE).getD c [] = rowE e := by
      rw [List.getD_eq_getElem?_getD, List.getElem?_map, List.getElem?_append_right (by omega), show c - done.length = 0 by omega]; rfl
    have hp : ((((done ++ e :: es).map rowE).getD c []).getD c 0 != 0 && pivsG Sound.inverse k (c + 1) (stepG Sound.inverse ((done ++ e :: es).map rowE) c)) = true := hp
    rw [Bool.and_eq_true, hge, rowE_get (by omega)] at hp
    obtain ⟨hp1, hp2⟩ := hp
    have hfi : (e :: es).findIdx? (fun (e : Sound.Eqn) => e.fs.getD c 0 != 0) = some 0 := by
      rw [List.findIdx?_cons, hp1]; rfl
    unfold Sound.solve
    rw [hfi]
    dsimp only [List.getElem?_cons_zero, List.eraseIdx_cons_zero]
    generalize hP : (⟨Sound.scaled (Sound.inverse (e.fs.getD c 0)) e.fs, Sound.scaled (Sound.inverse (e.fs.getD c 0)) e.row⟩ : Sound.Eqn) = p
    have hpf : p.fs.length = n := by rw [← hP]; unfold Sound.scaled; rw [List.length_map]; exact hef
    have hpr : rowE p = chG Sound.inverse ((done ++ e :: es).map rowE) c := by
      unfold chG
      rw [hge, rowE_get (by omega), ← hP]
      unfold rowE Sound.scaled
      rw [List.map_append]
    have hcl : ∀ x : Sound.Eqn, x.fs.length = n → rowE (Sound.lessEqn (x.fs.getD c 0) x p) = Sound.added (rowE x) ((chG Sound.inverse ((done ++ e :: es).map rowE) c).map (Sound.mul ((rowE x).getD c 0))) := fun x hx => by
      rw [rowE_less hx hpf, hpr, rowE_get (by omega)]
    have hst : stepG Sound.inverse ((done ++ e :: es).map rowE) c = ((done.map fun x => Sound.lessEqn (x.fs.getD c 0) x p) ++ [p] ++ es.map fun x => Sound.lessEqn (x.fs.getD c 0) x p).map rowE := by
      unfold stepG
      generalize hch : chG Sound.inverse ((done ++ e :: es).map rowE) c = ch at *
      rw [List.map_append, List.map_cons, List.mapIdx_append, List.mapIdx_cons, List.map_append, List.map_append, List.map_cons, List.map_nil, List.append_assoc, List.singleton_append]
      congr 1
      · refine List.ext_getElem (by simp) fun i hi1 hi2 => ?_
        simp only [List.getElem_mapIdx, List.getElem_map]
        simp at hi1
        rw [if_neg (by omega), hcl _ (h1 _ (List.getElem_mem hi1))]
      · congr 1
        · rw [if_pos (by rw [List.length_map]; omega), hpr]
        · refine List.ext_getElem (by simp) fun i hi1 hi2 => ?_
          simp only [List.getElem_mapIdx, List.getElem_map]
          simp at hi1
          rw [if_neg (by rw [List.length_map]; omega), hcl _ (h2 _ (List.mem_cons_of_mem _ (List.getElem_mem hi1)))]
    rw [hst] at hp2
    obtain ⟨out, o1, o2, o3, o4⟩ := solve_eq n k (c + 1) ((done.map fun x => Sound.lessEqn (x.fs.getD c 0) x p) ++ [p]) (es.map fun x => Sound.lessEqn (x.fs.getD c 0) x p) (by simp; omega) (by simp at he ⊢; omega) (by omega)
      (fun x hx => by
        rcases List.mem_append.mp hx with hx | hx
        · obtain ⟨y, hy, rfl⟩ := List.mem_map.mp hx
          exact less_len (h1 y hy) hpf
        · rw [List.mem_singleton.mp hx]; exact hpf)
      (fun x hx => by
        obtain ⟨y, hy, rfl⟩ := List.mem_map.mp hx
        exact less_len (h2 y (List.mem_cons_of_mem _ hy)) hpf) (by exact hp2)
    refine ⟨out, o1, ?_, o3, o4⟩
    rw [o2, ← hst]
    rfl
def lostF : Nat → List Sound.Bytes → List Nat
  | _, [] => []
  | o, b :: r => if b.isEmpty = true then o :: lostF (o + 1) r else lostF (o + 1) r
theorem lostF_eq : ∀ (fs : List Sound.Bytes) (o : Nat), ((fs.zipIdx o).map fun (x : Sound.Bytes × Nat) => (x.2, x.1)).filterMap (fun (x : Nat × Sound.Bytes) => if x.2.isEmpty = true then some x.1 else none) = lostF o fs
  | [], o => rfl
  | b :: r, o => by
    rw [List.zipIdx_cons, List.map_cons, List.filterMap_cons]
    dsimp only
    unfold lostF
    split
    · rename_i h
      split at h
      · cases h
      · rename_i h2; rw [if_neg h2]; exact lostF_eq r (o + 1)
    · rename_i b1 h
      split at h
      · rename_i h2; cases h; rw [if_pos h2, lostF_eq r (o + 1)]
      · cases h
theorem lostOf_eq (fs : List Sound.Bytes) : Sound.lostOf fs = lostF 0 fs := lostF_eq fs 0
theorem lostF_range : ∀ (fs : List Sound.Bytes) (o : Nat), lostF o fs = ((List.range fs.length).filter fun i => (fs.getD i []).length == 0).map (· + o)
  | [], o => rfl
  | b :: r, o => by
    rw [List.length_cons, List.range_succ_eq_map, List.filter_cons]
    unfold lostF
    have ih := lostF_range r (o + 1)
    have e2 : ((List.range r.length).map Nat.succ).filter (fun i => ((b :: r).getD i []).length == 0) = ((List.range r.length).filter fun i => (r.getD i []).length == 0).map Nat.succ := by
      rw [List.filter_map]; rfl
    rw [e2, ih]
    have e3 : (([0] : List Nat).map (· + o)) = [o] := by simp
    have eb : b.isEmpty = (((b :: r).getD 0 []).length == 0) := by cases b <;> rfl
    rw [← eb]
    split
    · rw [List.map_cons, List.map_map]
      congr 1
      · omega
      · exact List.map_congr_left fun x _ => by show x + (o + 1) = x + 1 + o; omega
    · rw [List.map_map]
      exact List.map_congr_left fun x _ => by show x + (o + 1) = x + 1 + o; omega
theorem lost_range (fs : List Sound.Bytes) : Sound.lostOf fs = (List.range fs.length).filter fun i => (fs.getD i []).length == 0 := by
  rw [lostOf_eq, lostF_range]
  simp
def setAll (W : List Sound.Bytes) (is : List Nat) (ms : List Sound.Bytes) : List Sound.Bytes := (is.zip ms).foldl (fun w x => w.set x.1 x.2) W
theorem fill_nil : ∀ fs : List Sound.Bytes, Sound.fill fs [] = fs
  | [] => by unfold Sound.fill; rfl
  | b :: r => by unfold Sound.fill; split <;> rw [fill_nil r]
theorem set_fill : ∀ (fs pre : List Sound.Bytes) (ms : List Sound.Bytes), setAll (pre ++ fs) (lostF pre.length fs) ms = pre ++ Sound.fill fs ms
  | [], pre, ms => by unfold lostF Sound.fill setAll; simp
  | b :: r, pre, [] => by
    rw [fill_nil]; unfold setAll; rw [List.zip_nil_right]; rfl
  | b :: r, pre, m :: ms => by
    unfold lostF Sound.fill
    split
    · have := set_fill r (pre ++ [m]) ms
      rw [List.length_append, List.length_singleton] at this
      unfold setAll at this ⊢
      rw [List.zip_cons_cons, List.foldl_cons]
      dsimp only
      have e : (pre ++ b :: r).set pre.length m = pre ++ [m] ++ r := by
        rw [List.set_append_right _ _ (Nat.le_refl _), Nat.sub_self, List.set_cons_zero]; simp
      rw [e, this]; simp
    · have := set_fill r (pre ++ [b]) (m :: ms)
      rw [List.length_append, List.length_singleton] at this
      rw [show pre ++ b :: r = pre ++ [b] ++ r by simp, this]; simp
theorem fill_eq (fs ms : List Sound.Bytes) : setAll fs (Sound.lostOf fs) ms = Sound.fill fs ms := by
  have := set_fill fs [] ms
  rw [lostOf_eq]; exact this
end Wg
namespace Wg
open PySem PySem.Spec PyProof.Rows L2
def top (i : Nat) : Stmt := PySem.Challenge.pw_soundkeeping_s05_anew.main.body.getD i (.Pass ⟨0, 0, 0, 0⟩)
abbrev s_to_octets : Stmt := top 4
abbrev s_from_octets : Stmt := top 5
abbrev s_crc32 : Stmt := top 6
abbrev s_products : Stmt := top 9
abbrev s_inverse : Stmt := top 10
abbrev s_scaled : Stmt := top 11
abbrev s_added : Stmt := top 12
abbrev s_solved_field : Stmt := top 13
abbrev s_read_rows : Stmt := top 26
abbrev s_write_rows : Stmt := top 27
abbrev s_factor_of : Stmt := top 28
abbrev s_row_sum : Stmt := top 29
abbrev s_longest_row : Stmt := top 30
abbrev s_piece_at : Stmt := top 31
abbrev s_read_pieces : Stmt := top 32
abbrev s_goes_with : Stmt := top 33
abbrev s_made_anew : Stmt := top 34
abbrev s_frame_of_row : Stmt := top 35
abbrev s_counted : Stmt := top 38
abbrev s_anew : Stmt := top 39
abbrev s_Piece_init : Stmt := inClass (top 25) 0
set_option genInjectivity false in
structure Adr where
  f_to_octets : Addr
  d_to_octets : FuncData
  f_from_octets : Addr
  d_from_octets : FuncData
  f_crc32 : Addr
  d_crc32 : FuncData
  f_products : Addr
  d_products : FuncData
  f_inverse : Addr
  d_inverse : FuncData
  f_scaled : Addr
  d_scaled : FuncData
  f_added : Addr
  d_added : FuncData
  f_solved_field : Addr
  d_solved_field : FuncData
  f_read_rows : Addr
  d_read_rows : FuncData
  f_write_rows : Addr
  d_write_rows : FuncData
  f_factor_of : Addr
  d_factor_of : FuncData
  f_row_sum : Addr
  d_row_sum : FuncData
  f_longest_row : Addr
  d_longest_row : FuncData
  f_piece_at : Addr
  d_piece_at : FuncData
  f_read_pieces : Addr
  d_read_pieces : FuncData
  f_goes_with : Addr
  d_goes_with : FuncData
  f_made_anew : Addr
  d_made_anew : FuncData
  f_frame_of_row : Addr
  d_frame_of_row : FuncData
  f_counted : Addr
  d_counted : FuncData
  f_anew : Addr
  d_anew : FuncData
  f_Piece_init : Addr
  d_Piece_init : FuncData
  c_Piece : Addr
  c_Unfit : Addr
  c_Unmade : Addr
  t_LONGEST : Tok
  t_CRC32_SIZE : Tok
  t_MODULUS : Tok
  t_MARK_spares : Tok
  t_MOST_FRAMES : Tok
  t_MOST_PIECES : Tok
  t_LENGTH_SIZE : Tok
  t_SHORTEST_ROW : Tok
  t_LONGEST_ROW : Tok
  t_FRONT_SIZE : Tok
  t_FIRST_DIVISOR : Tok
  t_GROUP_NUMBERS : Tok
  a_CRC32_STEPS : Addr
structure Txt (K : PySem.W.Frag) (mg : Str → Option Value) (A : Adr) : Prop where
  F_to_octets : Fun K "to_octets" "to_octets" s_to_octets A.f_to_octets A.d_to_octets
  b_to_octets : Binds K A.d_to_octets ["count", "number"] []
  m_to_octets : mg "to_octets" = some (.ref A.f_to_octets)
  F_from_octets : Fun K "from_octets" "from_octets" s_from_octets A.f_from_octets A.d_from_octets
  b_from_octets : Binds K A.d_from_octets ["data"] []
  m_from_octets : mg "from_octets" = some (.ref A.f_from_octets)
  F_crc32 : Fun K "crc32" "crc32" s_crc32 A.f_crc32 A.d_crc32
  b_crc32 : Binds K A.d_crc32 ["data"] []
  m_crc32 : mg "crc32" = some (.ref A.f_crc32)
  F_products : Fun K "products" "products" s_products A.f_products A.d_products
  b_products : Binds K A.d_products ["factor"] []
  m_products : mg "products" = some (.ref A.f_products)
  F_inverse : Fun K "inverse" "inverse" s_inverse A.f_inverse A.d_inverse
  b_inverse : Binds K A.d_inverse ["number"] []
  m_inverse : mg "inverse" = some (.ref A.f_inverse)
  F_scaled : Fun K "scaled" "scaled" s_scaled A.f_scaled A.d_scaled
  b_scaled : Binds K A.d_scaled ["factor", "data"] []
  m_scaled : mg "scaled" = some (.ref A.f_scaled)
  F_added : Fun K "added" "added" s_added A.f_added A.d_added
  b_added : Binds K A.d_added ["one", "other"] []
  m_added : mg "added" = some (.ref A.f_added)
  F_solved_field : Fun K "solved" "solved" s_solved_field A.f_solved_field A.d_solved_field
  b_solved_field : Binds K A.d_solved_field ["equations"] []
  m_solved_field : mg "solved" = some (.ref A.f_solved_field)
  F_read_rows : Fun K "read_rows" "read_rows" s_read_rows A.f_read_rows A.d_read_rows
  b_read_rows : Binds K A.d_read_rows ["rows", "least"] []
  m_read_rows : mg "read_rows" = some (.ref A.f_read_rows)
  F_write_rows : Fun K "write_rows" "write_rows" s_write_rows A.f_write_rows A.d_write_rows
  b_write_rows : Binds K A.d_write_rows ["frames"] []
  m_write_rows : mg "write_rows" = some (.ref A.f_write_rows)
  F_factor_of : Fun K "factor_of" "factor_of" s_factor_of A.f_factor_of A.d_factor_of
  b_factor_of : Binds K A.d_factor_of ["i", "j"] []
  m_factor_of : mg "factor_of" = some (.ref A.f_factor_of)
  F_row_sum : Fun K "row_sum" "row_sum" s_row_sum A.f_row_sum A.d_row_sum
  b_row_sum : Binds K A.d_row_sum ["j", "row_size", "frames"] []
  m_row_sum : mg "row_sum" = some (.ref A.f_row_sum)
  F_longest_row : Fun K "longest_row" "longest_row" s_longest_row A.f_longest_row A.d_longest_row
  b_longest_row : Binds K A.d_longest_row ["frames"] []
  m_longest_row : mg "longest_row" = some (.ref A.f_longest_row)
  F_piece_at : Fun K "piece_at" "piece_at" s_piece_at A.f_piece_at A.d_piece_at
  b_piece_at : Binds K A.d_piece_at ["data", "place"] []
  m_piece_at : mg "piece_at" = some (.ref A.f_piece_at)
  F_read_pieces : Fun K "read_pieces" "read_pieces" s_read_pieces A.f_read_pieces A.d_read_pieces
  b_read_pieces : Binds K A.d_read_pieces ["g", "data"] []
  m_read_pieces : mg "read_pieces" = some (.ref A.f_read_pieces)
  F_goes_with : Fun K "goes_with" "goes_with" s_goes_with A.f_goes_with A.d_goes_with
  b_goes_with : Binds K A.d_goes_with ["piece", "other"] []
  m_goes_with : mg "goes_with" = some (.ref A.f_goes_with)
  F_made_anew : Fun K "made_anew" "made_anew" s_made_anew A.f_made_anew A.d_made_anew
  b_made_anew : Binds K A.d_made_anew ["frames", "pieces"] []
  m_made_anew : mg "made_anew" = some (.ref A.f_made_anew)
  F_frame_of_row : Fun K "frame_of_row" "frame_of_row" s_frame_of_row A.f_frame_of_row A.d_frame_of_row
  b_frame_of_row : Binds K A.d_frame_of_row ["row"] []
  m_frame_of_row : mg "frame_of_row" = some (.ref A.f_frame_of_row)
  F_counted : Fun K "counted" "counted" s_counted A.f_counted A.d_counted
  b_counted : Binds K A.d_counted ["data"] []
  m_counted : mg "counted" = some (.ref A.f_counted)
  F_anew : Fun K "anew" "anew" s_anew A.f_anew A.d_anew
  b_anew : Binds K A.d_anew ["g", "rows", "pieces"] []
  m_anew : mg "anew" = some (.ref A.f_anew)
  F_Piece_init : Fun K "__init__" "Piece.__init__" s_Piece_init A.f_Piece_init A.d_Piece_init
  b_Piece_init : Binds K A.d_Piece_init ["self", "g", "j", "row"] []
  l_Piece : Cls K A.c_Piece
  m_Piece : mg "Piece" = some (.ref A.c_Piece)
  k_Piece : Mk K A.c_Piece A.f_Piece_init
  n_Piece_g : NoAttr K A.c_Piece "g"
  n_Piece_j : NoAttr K A.c_Piece "j"
  n_Piece_row : NoAttr K A.c_Piece "row"
  n_Piece_size : NoAttr K A.c_Piece "size"
  m_Unfit : mg "Unfit" = some (.ref A.c_Unfit)
  x_Unfit : Own K A.c_Unfit
  m_Unmade : mg "Unmade" = some (.ref A.c_Unmade)
  x_Unmade : Own K A.c_Unmade
  d_Unfit_Unmade : A.c_Unfit ≠ A.c_Unmade
  g_LONGEST : mg "LONGEST" = some (.int 4096 A.t_LONGEST)
  g_CRC32_SIZE : mg "CRC32_SIZE" = some (.int 4 A.t_CRC32_SIZE)
  g_MODULUS : mg "MODULUS" = some (.int 285 A.t_MODULUS)
  g_MARK_spares : mg "MARK" = some (.int 19280 A.t_MARK_spares)
  g_MOST_FRAMES : mg "MOST_FRAMES" = some (.int 8 A.t_MOST_FRAMES)
  g_MOST_PIECES : mg "MOST_PIECES" = some (.int 4 A.t_MOST_PIECES)
  g_LENGTH_SIZE : mg "LENGTH_SIZE" = some (.int 2 A.t_LENGTH_SIZE)
  g_SHORTEST_ROW : mg "SHORTEST_ROW" = some (.int 3 A.t_SHORTEST_ROW)
  g_LONGEST_ROW : mg "LONGEST_ROW" = some (.int 4098 A.t_LONGEST_ROW)
  g_FRONT_SIZE : mg "FRONT_SIZE" = some (.int 7 A.t_FRONT_SIZE)
  g_FIRST_DIVISOR : mg "FIRST_DIVISOR" = some (.int 128 A.t_FIRST_DIVISOR)
  g_GROUP_NUMBERS : mg "GROUP_NUMBERS" = some (.int 65536 A.t_GROUP_NUMBERS)
  g_CRC32_STEPS : mg "CRC32_STEPS" = some (.ref A.a_CRC32_STEPS)
  q_CRC32_STEPS : ∀ H, SqT K H A.a_CRC32_STEPS [V.int (0), V.int (498536548), V.int (997073096), V.int (651767980), V.int (1994146192), V.int (1802195444), V.int (1303535960), V.int (1342533948), V.int (3988292384), V.int (4027552580), V.int (3604390888), V.int (3412177804), V.int (2607071920), V.int (2262029012), V.int (2685067896), V.int (3183342108)]
  z_all : mg "all" = none
  z_any : mg "any" = none
  z_enumerate : mg "enumerate" = none
  z_len : mg "len" = none
  z_list : mg "list" = none
  z_max : mg "max" = none
  z_range : mg "range" = none
  z_zip : mg "zip" = none
  entry : ∀ (s : Shared) (us : List Value), us.length = (["g", "rows", "pieces"] : List Str).length → BindsTo s A.d_anew ⟨us, []⟩ ((["g", "rows", "pieces"] : List Str).zip us)
set_option maxHeartbeats 0 in
theorem txt_mk {K : PySem.W.Frag} {h : Heap} {mg : Str → Option Value} (X : K.In h) (G : h.Ns mainGlobals mg)
    {c_Unmade : Addr}
    {c_Unfit : Addr}
    {c_Piece : Addr}
    {f_to_octets : Addr} {od_to_octets an_to_octets : Option Addr} {sl_to_octets : Array (Option Value)} {oc_to_octets kV_to_octets dc_to_octets pm_to_octets cd_to_octets ct_to_octets : Value}
    {f_from_octets : Addr} {od_from_octets an_from_octets : Option Addr} {sl_from_octets : Array (Option Value)} {oc_from_octets kV_from_octets dc_from_octets pm_from_octets cd_from_octets ct_from_octets : Value}
    {f_crc32 : Addr} {od_crc32 an_crc32 : Option Addr} {sl_crc32 : Array (Option Value)} {oc_crc32 kV_crc32 dc_crc32 pm_crc32 cd_crc32 ct_crc32 : Value}
    {f_products : Addr} {od_products an_products : Option Addr} {sl_products : Array (Option Value)} {oc_products kV_products dc_products pm_products cd_products ct_products : Value}
    {f_inverse : Addr} {od_inverse an_inverse : Option Addr} {sl_inverse : Array (Option Value)} {oc_inverse kV_inverse dc_inverse pm_inverse cd_inverse ct_inverse : Value}
    {f_scaled : Addr} {od_scaled an_scaled : Option Addr} {sl_scaled : Array (Option Value)} {oc_scaled kV_scaled dc_scaled pm_scaled cd_scaled ct_scaled : Value}
    {f_added : Addr} {od_added an_added : Option Addr} {sl_added : Array (Option Value)} {oc_added kV_added dc_added pm_added cd_added ct_added : Value}
    {f_solved_field : Addr} {od_solved_field an_solved_field : Option Addr} {sl_solved_field : Array (Option Value)} {oc_solved_field kV_solved_field dc_solved_field pm_solved_field cd_solved_field ct_solved_field : Value}
    {f_read_rows : Addr} {od_read_rows an_read_rows : Option Addr} {sl_read_rows : Array (Option Value)} {oc_read_rows kV_read_rows dc_read_rows pm_read_rows cd_read_rows ct_read_rows : Value}
    {f_write_rows : Addr} {od_write_rows an_write_rows : Option Addr} {sl_write_rows : Array (Option Value)} {oc_write_rows kV_write_rows dc_write_rows pm_write_rows cd_write_rows ct_write_rows : Value}
    {f_factor_of : Addr} {od_factor_of an_factor_of : Option Addr} {sl_factor_of : Array (Option Value)} {oc_factor_of kV_factor_of dc_factor_of pm_factor_of cd_factor_of ct_factor_of : Value}
    {f_row_sum : Addr} {od_row_sum an_row_sum : Option Addr} {sl_row_sum : Array (Option Value)} {oc_row_sum kV_row_sum dc_row_sum pm_row_sum cd_row_sum ct_row_sum : Value}
    {f_longest_row : Addr} {od_longest_row an_longest_row : Option Addr} {sl_longest_row : Array (Option Value)} {oc_longest_row kV_longest_row dc_longest_row pm_longest_row cd_longest_row ct_longest_row : Value}
    {f_piece_at : Addr} {od_piece_at an_piece_at : Option Addr} {sl_piece_at : Array (Option Value)} {oc_piece_at kV_piece_at dc_piece_at pm_piece_at cd_piece_at ct_piece_at : Value}
    {f_read_pieces : Addr} {od_read_pieces an_read_pieces : Option Addr} {sl_read_pieces : Array (Option Value)} {oc_read_pieces kV_read_pieces dc_read_pieces pm_read_pieces cd_read_pieces ct_read_pieces : Value}
    {f_goes_with : Addr} {od_goes_with an_goes_with : Option Addr} {sl_goes_with : Array (Option Value)} {oc_goes_with kV_goes_with dc_goes_with pm_goes_with cd_goes_with ct_goes_with : Value}
    {f_made_anew : Addr} {od_made_anew an_made_anew : Option Addr} {sl_made_anew : Array (Option Value)} {oc_made_anew kV_made_anew dc_made_anew pm_made_anew cd_made_anew ct_made_anew : Value}
    {f_frame_of_row : Addr} {od_frame_of_row an_frame_of_row : Option Addr} {sl_frame_of_row : Array (Option Value)} {oc_frame_of_row kV_frame_of_row dc_frame_of_row pm_frame_of_row cd_frame_of_row ct_frame_of_row : Value}
    {f_counted : Addr} {od_counted an_counted : Option Addr} {sl_counted : Array (Option Value)} {oc_counted kV_counted dc_counted pm_counted cd_counted ct_counted : Value}
    {f_anew : Addr} {od_anew an_anew : Option Addr} {sl_anew : Array (Option Value)} {oc_anew kV_anew dc_anew pm_anew cd_anew ct_anew : Value}
    {f_Piece_init : Addr} {od_Piece_init an_Piece_init : Option Addr} {sl_Piece_init : Array (Option Value)} {oc_Piece_init kV_Piece_init dc_Piece_init pm_Piece_init cd_Piece_init ct_Piece_init : Value}
    {t_LONGEST : Tok}
    {t_CRC32_SIZE : Tok}
    {t_MODULUS : Tok}
    {t_MARK_spares : Tok}
    {t_MOST_FRAMES : Tok}
    {t_MOST_PIECES : Tok}
    {t_LENGTH_SIZE : Tok}
    {t_SHORTEST_ROW : Tok}
    {t_LONGEST_ROW : Tok}
    {t_FRONT_SIZE : Tok}
    {t_FIRST_DIVISOR : Tok}
    {t_GROUP_NUMBERS : Tok}
    {a_CRC32_STEPS : Addr} {dT_CRC32_STEPS : Option Addr} {nT_CRC32_STEPS : Nat} {sT_CRC32_STEPS : Array (Option Value)} {tk_CRC32_STEPS_0 tk_CRC32_STEPS_1 tk_CRC32_STEPS_2 tk_CRC32_STEPS_3 tk_CRC32_STEPS_4 tk_CRC32_STEPS_5 tk_CRC32_STEPS_6 tk_CRC32_STEPS_7 tk_CRC32_STEPS_8 tk_CRC32_STEPS_9 tk_CRC32_STEPS_10 tk_CRC32_STEPS_11 tk_CRC32_STEPS_12 tk_CRC32_STEPS_13 tk_CRC32_STEPS_14 tk_CRC32_STEPS_15 : Tok}
    (a_Piece : PySem.W.nsIn K mainGlobals "Piece" = some (some (.ref c_Piece)))
    (a_Unfit : PySem.W.nsIn K mainGlobals "Unfit" = some (some (.ref c_Unfit)))
    (a_Unmade : PySem.W.nsIn K mainGlobals "Unmade" = some (some (.ref c_Unmade)))
    (a_to_octets : PySem.W.nsIn K mainGlobals "to_octets" = some (some (.ref f_to_octets)))
    (l_to_octets : K.lookup f_to_octets = some ⟨oc_to_octets, od_to_octets, .func (PySem.W.fnOf "to_octets" "to_octets" (defArgs s_to_octets) (defBody s_to_octets) (defScope s_to_octets) .none kV_to_octets dc_to_octets pm_to_octets an_to_octets cd_to_octets ct_to_octets), sl_to_octets⟩)
    (c_to_octets : PySem.W.codeIn K cd_to_octets "to_octets" = true)
    (k_to_octets : PySem.W.keepIn K (.ref f_to_octets) = true)
    (a_from_octets : PySem.W.nsIn K mainGlobals "from_octets" = some (some (.ref f_from_octets)))
    (l_from_octets : K.lookup f_from_octets = some ⟨oc_from_octets, od_from_octets, .func (PySem.W.fnOf "from_octets" "from_octets" (defArgs s_from_octets) (defBody s_from_octets) (defScope s_from_octets) .none kV_from_octets dc_from_octets pm_from_octets an_from_octets cd_from_octets ct_from_octets), sl_from_octets⟩)
    (c_from_octets : PySem.W.codeIn K cd_from_octets "from_octets" = true)
    (k_from_octets : PySem.W.keepIn K (.ref f_from_octets) = true)
    (a_crc32 : PySem.W.nsIn K mainGlobals "crc32" = some (some (.ref f_crc32)))
    (l_crc32 : K.lookup f_crc32 = some ⟨oc_crc32, od_crc32, .func (PySem.W.fnOf "crc32" "crc32" (defArgs s_crc32) (defBody s_crc32) (defScope s_crc32) .none kV_crc32 dc_crc32 pm_crc32 an_crc32 cd_crc32 ct_crc32), sl_crc32⟩)
    (c_crc32 : PySem.W.codeIn K cd_crc32 "crc32" = true)
    (k_crc32 : PySem.W.keepIn K (.ref f_crc32) = true)
    (a_products : PySem.W.nsIn K mainGlobals "products" = some (some (.ref f_products)))
    (l_products : K.lookup f_products = some ⟨oc_products, od_products, .func (PySem.W.fnOf "products" "products" (defArgs s_products) (defBody s_products) (defScope s_products) .none kV_products dc_products pm_products an_products cd_products ct_products), sl_products⟩)
    (c_products : PySem.W.codeIn K cd_products "products" = true)
    (k_products : PySem.W.keepIn K (.ref f_products) = true)
    (a_inverse : PySem.W.nsIn K mainGlobals "inverse" = some (some (.ref f_inverse)))
    (l_inverse : K.lookup f_inverse = some ⟨oc_inverse, od_inverse, .func (PySem.W.fnOf "inverse" "inverse" (defArgs s_inverse) (defBody s_inverse) (defScope s_inverse) .none kV_inverse dc_inverse pm_inverse an_inverse cd_inverse ct_inverse), sl_inverse⟩)
    (c_inverse : PySem.W.codeIn K cd_inverse "inverse" = true)
    (k_inverse : PySem.W.keepIn K (.ref f_inverse) = true)
    (a_scaled : PySem.W.nsIn K mainGlobals "scaled" = some (some (.ref f_scaled)))
    (l_scaled : K.lookup f_scaled = some ⟨oc_scaled, od_scaled, .func (PySem.W.fnOf "scaled" "scaled" (defArgs s_scaled) (defBody s_scaled) (defScope s_scaled) .none kV_scaled dc_scaled pm_scaled an_scaled cd_scaled ct_scaled), sl_scaled⟩)
    (c_scaled : PySem.W.codeIn K cd_scaled "scaled" = true)
    (k_scaled : PySem.W.keepIn K (.ref f_scaled) = true)
    (a_added : PySem.W.nsIn K mainGlobals "added" = some (some (.ref f_added)))
    (l_added : K.lookup f_added = some ⟨oc_added, od_added, .func (PySem.W.fnOf "added" "added" (defArgs s_added) (defBody s_added) (defScope s_added) .none kV_added dc_added pm_added an_added cd_added ct_added), sl_added⟩)
    (c_added : PySem.W.codeIn K cd_added "added" = true)
    (k_added : PySem.W.keepIn K (.ref f_added) = true)
    (a_solved_field : PySem.W.nsIn K mainGlobals "solved" = some (some (.ref f_solved_field)))
    (l_solved_field : K.lookup f_solved_field = some ⟨oc_solved_field, od_solved_field, .func (PySem.W.fnOf "solved" "solved" (defArgs s_solved_field) (defBody s_solved_field) (defScope s_solved_field) .none kV_solved_field dc_solved_field pm_solved_field an_solved_field cd_solved_field ct_solved_field), sl_solved_field⟩)
    (c_solved_field : PySem.W.codeIn K cd_solved_field "solved" = true)
    (k_solved_field : PySem.W.keepIn K (.ref f_solved_field) = true)
    (a_read_rows : PySem.W.nsIn K mainGlobals "read_rows" = some (some (.ref f_read_rows)))
    (l_read_rows : K.lookup f_read_rows = some ⟨oc_read_rows, od_read_rows, .func (PySem.W.fnOf "read_rows" "read_rows" (defArgs s_read_rows) (defBody s_read_rows) (defScope s_read_rows) .none kV_read_rows dc_read_rows pm_read_rows an_read_rows cd_read_rows ct_read_rows), sl_read_rows⟩)
    (c_read_rows : PySem.W.codeIn K cd_read_rows "read_rows" = true)
    (k_read_rows : PySem.W.keepIn K (.ref f_read_rows) = true)
    (a_write_rows : PySem.W.nsIn K mainGlobals "write_rows" = some (some (.ref f_write_rows)))
    (l_write_rows : K.lookup f_write_rows = some ⟨oc_write_rows, od_write_rows, .func (PySem.W.fnOf "write_rows" "write_rows" (defArgs s_write_rows) (defBody s_write_rows) (defScope s_write_rows) .none kV_write_rows dc_write_rows pm_write_rows an_write_rows cd_write_rows ct_write_rows), sl_write_rows⟩)
    (c_write_rows : PySem.W.codeIn K cd_write_rows "write_rows" = true)
    (k_write_rows : PySem.W.keepIn K (.ref f_write_rows) = true)
    (a_factor_of : PySem.W.nsIn K mainGlobals "factor_of" = some (some (.ref f_factor_of)))
    (l_factor_of : K.lookup f_factor_of = some ⟨oc_factor_of, od_factor_of, .func (PySem.W.fnOf "factor_of" "factor_of" (defArgs s_factor_of) (defBody s_factor_of) (defScope s_factor_of) .none kV_factor_of dc_factor_of pm_factor_of an_factor_of cd_factor_of ct_factor_of), sl_factor_of⟩)
    (c_factor_of : PySem.W.codeIn K cd_factor_of "factor_of" = true)
    (k_factor_of : PySem.W.keepIn K (.ref f_factor_of) = true)
    (a_row_sum : PySem.W.nsIn K mainGlobals "row_sum" = some (some (.ref f_row_sum)))
    (l_row_sum : K.lookup f_row_sum = some ⟨oc_row_sum, od_row_sum, .func (PySem.W.fnOf "row_sum" "row_sum" (defArgs s_row_sum) (defBody s_row_sum) (defScope s_row_sum) .none kV_row_sum dc_row_sum pm_row_sum an_row_sum cd_row_sum ct_row_sum), sl_row_sum⟩)
    (c_row_sum : PySem.W.codeIn K cd_row_sum "row_sum" = true)
    (k_row_sum : PySem.W.keepIn K (.ref f_row_sum) = true)
    (a_longest_row : PySem.W.nsIn K mainGlobals "longest_row" = some (some (.ref f_longest_row)))
    (l_longest_row : K.lookup f_longest_row = some ⟨oc_longest_row, od_longest_row, .func (PySem.W.fnOf "longest_row" "longest_row" (defArgs s_longest_row) (defBody s_longest_row) (defScope s_longest_row) .none kV_longest_row dc_longest_row pm_longest_row an_longest_row cd_longest_row ct_longest_row), sl_longest_row⟩)
    (c_longest_row : PySem.W.codeIn K cd_longest_row "longest_row" = true)
    (k_longest_row : PySem.W.keepIn K (.ref f_longest_row) = true)
    (a_piece_at : PySem.W.nsIn K mainGlobals "piece_at" = some (some (.ref f_piece_at)))
    (l_piece_at : K.lookup f_piece_at = some ⟨oc_piece_at, od_piece_at, .func (PySem.W.fnOf "piece_at" "piece_at" (defArgs s_piece_at) (defBody s_piece_at) (defScope s_piece_at) .none kV_piece_at dc_piece_at pm_piece_at an_piece_at cd_piece_at ct_piece_at), sl_piece_at⟩)
    (c_piece_at : PySem.W.codeIn K cd_piece_at "piece_at" = true)
    (k_piece_at : PySem.W.keepIn K (.ref f_piece_at) = true)
    (a_read_pieces : PySem.W.nsIn K mainGlobals "read_pieces" = some (some (.ref f_read_pieces)))
    (l_read_pieces : K.lookup f_read_pieces = some ⟨oc_read_pieces, od_read_pieces, .func (PySem.W.fnOf "read_pieces" "read_pieces" (defArgs s_read_pieces) (defBody s_read_pieces) (defScope s_read_pieces) .none kV_read_pieces dc_read_pieces pm_read_pieces an_read_pieces cd_read_pieces ct_read_pieces), sl_read_pieces⟩)
    (c_read_pieces : PySem.W.codeIn K cd_read_pieces "read_pieces" = true)
    (k_read_pieces : PySem.W.keepIn K (.ref f_read_pieces) = true)
    (a_goes_with : PySem.W.nsIn K mainGlobals "goes_with" = some (some (.ref f_goes_with)))
    (l_goes_with : K.lookup f_goes_with = some ⟨oc_goes_with, od_goes_with, .func (PySem.W.fnOf "goes_with" "goes_with" (defArgs s_goes_with) (defBody s_goes_with) (defScope s_goes_with) .none kV_goes_with dc_goes_with pm_goes_with an_goes_with cd_goes_with ct_goes_with), sl_goes_with⟩)
    (c_goes_with : PySem.W.codeIn K cd_goes_with "goes_with" = true)
    (k_goes_with : PySem.W.keepIn K (.ref f_goes_with) = true)
    (a_made_anew : PySem.W.nsIn K mainGlobals "made_anew" = some (some (.ref f_made_anew)))
    (l_made_anew : K.lookup f_made_anew = some ⟨oc_made_anew, od_made_anew, .func (PySem.W.fnOf "made_anew" "made_anew" (defArgs s_made_anew) (defBody s_made_anew) (defScope s_made_anew) .none kV_made_anew dc_made_anew pm_made_anew an_made_anew cd_made_anew ct_made_anew), sl_made_anew⟩)
    (c_made_anew : PySem.W.codeIn K cd_made_anew "made_anew" = true)
    (k_made_anew : PySem.W.keepIn K (.ref f_made_anew) = true)
    (a_frame_of_row : PySem.W.nsIn K mainGlobals "frame_of_row" = some (some (.ref f_frame_of_row)))
    (l_frame_of_row : K.lookup f_frame_of_row = some ⟨oc_frame_of_row, od_frame_of_row, .func (PySem.W.fnOf "frame_of_row" "frame_of_row" (defArgs s_frame_of_row) (defBody s_frame_of_row) (defScope s_frame_of_row) .none kV_frame_of_row dc_frame_of_row pm_frame_of_row an_frame_of_row cd_frame_of_row ct_frame_of_row), sl_frame_of_row⟩)
    (c_frame_of_row : PySem.W.codeIn K cd_frame_of_row "frame_of_row" = true)
    (k_frame_of_row : PySem.W.keepIn K (.ref f_frame_of_row) = true)
    (a_counted : PySem.W.nsIn K mainGlobals "counted" = some (some (.ref f_counted)))
    (l_counted : K.lookup f_counted = some ⟨oc_counted, od_counted, .func (PySem.W.fnOf "counted" "counted" (defArgs s_counted) (defBody s_counted) (defScope s_counted) .none kV_counted dc_counted pm_counted an_counted cd_counted ct_counted), sl_counted⟩)
    (c_counted : PySem.W.codeIn K cd_counted "counted" = true)
    (k_counted : PySem.W.keepIn K (.ref f_counted) = true)
    (a_anew : PySem.W.nsIn K mainGlobals "anew" = some (some (.ref f_anew)))
    (l_anew : K.lookup f_anew = some ⟨oc_anew, od_anew, .func (PySem.W.fnOf "anew" "anew" (defArgs s_anew) (defBody s_anew) (defScope s_anew) .none kV_anew dc_anew pm_anew an_anew cd_anew ct_anew), sl_anew⟩)
    (c_anew : PySem.W.codeIn K cd_anew "anew" = true)
    (k_anew : PySem.W.keepIn K (.ref f_anew) = true)
    (a_Piece_init : PySem.W.findIn K (.ref c_Piece) "__init__" = some (some (.ref f_Piece_init)))
    (i_Piece_init : PySem.W.isFn K (.ref f_Piece_init) = true)
    (l_Piece_init : K.lookup f_Piece_init = some ⟨oc_Piece_init, od_Piece_init, .func (PySem.W.fnOf "__init__" "Piece.__init__" (defArgs s_Piece_init) (defBody s_Piece_init) (defScope s_Piece_init) .none kV_Piece_init dc_Piece_init pm_Piece_init an_Piece_init cd_Piece_init ct_Piece_init), sl_Piece_init⟩)
    (c_Piece_init : PySem.W.codeIn K cd_Piece_init "Piece.__init__" = true)
    (k_Piece_init : PySem.W.keepIn K (.ref f_Piece_init) = true)
    (pg_Piece : PySem.W.plainGet K c_Piece Str.empty = true)
    (hd_Piece : PySem.W.hasDictIn K c_Piece = true)
    (po_Piece : PySem.W.plainOver K c_Piece = true)
    (sa_Piece : PySem.W.findIn K (.ref c_Piece) "__setattr__" = some (some (.builtin "object.__setattr__")))
    (mk_Piece : PySem.W.makesIn K c_Piece = true)
    (kc_Piece : PySem.W.keepIn K (.ref c_Piece) = true)
    (n_Piece_g : PySem.W.findIn K (.ref c_Piece) "g" = some none)
    (n_Piece_j : PySem.W.findIn K (.ref c_Piece) "j" = some none)
    (n_Piece_row : PySem.W.findIn K (.ref c_Piece) "row" = some none)
    (n_Piece_size : PySem.W.findIn K (.ref c_Piece) "size" = some none)
    (x_Unfit : PySem.W.excIn K c_Unfit EXB "Exception.__new__" = true)
    (y_Unfit : baseIn K c_Unfit = true)
    (x_Unmade : PySem.W.excIn K c_Unmade EXB "Exception.__new__" = true)
    (y_Unmade : baseIn K c_Unmade = true)
    (g_LONGEST : PySem.W.nsIn K mainGlobals "LONGEST" = some (some (.int 4096 t_LONGEST)))
    (g_CRC32_SIZE : PySem.W.nsIn K mainGlobals "CRC32_SIZE" = some (some (.int 4 t_CRC32_SIZE)))
    (g_MODULUS : PySem.W.nsIn K mainGlobals "MODULUS" = some (some (.int 285 t_MODULUS)))
    (g_MARK_spares : PySem.W.nsIn K mainGlobals "MARK" = some (some (.int 19280 t_MARK_spares)))
    (g_MOST_FRAMES : PySem.W.nsIn K mainGlobals "MOST_FRAMES" = some (some (.int 8 t_MOST_FRAMES)))
    (g_MOST_PIECES : PySem.W.nsIn K mainGlobals "MOST_PIECES" = some (some (.int 4 t_MOST_PIECES)))
    (g_LENGTH_SIZE : PySem.W.nsIn K mainGlobals "LENGTH_SIZE" = some (some (.int 2 t_LENGTH_SIZE)))
    (g_SHORTEST_ROW : PySem.W.nsIn K mainGlobals "SHORTEST_ROW" = some (some (.int 3 t_SHORTEST_ROW)))
    (g_LONGEST_ROW : PySem.W.nsIn K mainGlobals "LONGEST_ROW" = some (some (.int 4098 t_LONGEST_ROW)))
    (g_FRONT_SIZE : PySem.W.nsIn K mainGlobals "FRONT_SIZE" = some (some (.int 7 t_FRONT_SIZE)))
    (g_FIRST_DIVISOR : PySem.W.nsIn K mainGlobals "FIRST_DIVISOR" = some (some (.int 128 t_FIRST_DIVISOR)))
    (g_GROUP_NUMBERS : PySem.W.nsIn K mainGlobals "GROUP_NUMBERS" = some (some (.int 65536 t_GROUP_NUMBERS)))
    (g_CRC32_STEPS : PySem.W.nsIn K mainGlobals "CRC32_STEPS" = some (some (.ref a_CRC32_STEPS)))
    (t_CRC32_STEPS : K.lookup a_CRC32_STEPS = some ⟨.type "tuple", dT_CRC32_STEPS, .seq #[.int (0) tk_CRC32_STEPS_0, .int (498536548) tk_CRC32_STEPS_1, .int (997073096) tk_CRC32_STEPS_2, .int (651767980) tk_CRC32_STEPS_3, .int (1994146192) tk_CRC32_STEPS_4, .int (1802195444) tk_CRC32_STEPS_5, .int (1303535960) tk_CRC32_STEPS_6, .int (1342533948) tk_CRC32_STEPS_7, .int (3988292384) tk_CRC32_STEPS_8, .int (4027552580) tk_CRC32_STEPS_9, .int (3604390888) tk_CRC32_STEPS_10, .int (3412177804) tk_CRC32_STEPS_11, .int (2607071920) tk_CRC32_STEPS_12, .int (2262029012) tk_CRC32_STEPS_13, .int (2685067896) tk_CRC32_STEPS_14, .int (3183342108) tk_CRC32_STEPS_15] nT_CRC32_STEPS, sT_CRC32_STEPS⟩)
    (z_all : PySem.W.nsIn K mainGlobals "all" = some none)
    (z_any : PySem.W.nsIn K mainGlobals "any" = some none)
    (z_enumerate : PySem.W.nsIn K mainGlobals "enumerate" = some none)
    (z_len : PySem.W.nsIn K mainGlobals "len" = some none)
    (z_list : PySem.W.nsIn K mainGlobals "list" = some none)
    (z_max : PySem.W.nsIn K mainGlobals "max" = some none)
    (z_range : PySem.W.nsIn K mainGlobals "range" = some none)
    (z_zip : PySem.W.nsIn K mainGlobals "zip" = some none)
    (d_Unfit_Unmade : (c_Unfit == c_Unmade) = false)
    : ∃ A : Adr, Txt K mg A := by
  have F_to_octets := fun_mk (st := s_to_octets) l_to_octets c_to_octets k_to_octets
  have F_from_octets := fun_mk (st := s_from_octets) l_from_octets c_from_octets k_from_octets
  have F_crc32 := fun_mk (st := s_crc32) l_crc32 c_crc32 k_crc32
  have F_products := fun_mk (st := s_products) l_products c_products k_products
  have F_inverse := fun_mk (st := s_inverse) l_inverse c_inverse k_inverse
  have F_scaled := fun_mk (st := s_scaled) l_scaled c_scaled k_scaled
  have F_added := fun_mk (st := s_added) l_added c_added k_added
  have F_solved_field := fun_mk (st := s_solved_field) l_solved_field c_solved_field k_solved_field
  have F_read_rows := fun_mk (st := s_read_rows) l_read_rows c_read_rows k_read_rows
  have F_write_rows := fun_mk (st := s_write_rows) l_write_rows c_write_rows k_write_rows
  have F_factor_of := fun_mk (st := s_factor_of) l_factor_of c_factor_of k_factor_of
  have F_row_sum := fun_mk (st := s_row_sum) l_row_sum c_row_sum k_row_sum
  have F_longest_row := fun_mk (st := s_longest_row) l_longest_row c_longest_row k_longest_row
  have F_piece_at := fun_mk (st := s_piece_at) l_piece_at c_piece_at k_piece_at
  have F_read_pieces := fun_mk (st := s_read_pieces) l_read_pieces c_read_pieces k_read_pieces
  have F_goes_with := fun_mk (st := s_goes_with) l_goes_with c_goes_with k_goes_with
  have F_made_anew := fun_mk (st := s_made_anew) l_made_anew c_made_anew k_made_anew
  have F_frame_of_row := fun_mk (st := s_frame_of_row) l_frame_of_row c_frame_of_row k_frame_of_row
  have F_counted := fun_mk (st := s_counted) l_counted c_counted k_counted
  have F_anew := fun_mk (st := s_anew) l_anew c_anew k_anew
  have F_Piece_init := fun_mk (st := s_Piece_init) l_Piece_init c_Piece_init k_Piece_init
  refine ⟨⟨f_to_octets, PySem.W.fnOf "to_octets" "to_octets" (defArgs s_to_octets) (defBody s_to_octets) (defScope s_to_octets) .none kV_to_octets dc_to_octets pm_to_octets an_to_octets cd_to_octets ct_to_octets, f_from_octets, PySem.W.fnOf "from_octets" "from_octets" (defArgs s_from_octets) (defBody s_from_octets) (defScope s_from_octets) .none kV_from_octets dc_from_octets pm_from_octets an_from_octets cd_from_octets ct_from_octets, f_crc32, PySem.W.fnOf "crc32" "crc32" (defArgs s_crc32) (defBody s_crc32) (defScope s_crc32) .none kV_crc32 dc_crc32 pm_crc32 an_crc32 cd_crc32 ct_crc32, f_products, PySem.W.fnOf "products" "products" (defArgs s_products) (defBody s_products) (defScope s_products) .none kV_products dc_products pm_products an_products cd_products ct_products, f_inverse, PySem.W.fnOf "inverse" "inverse" (defArgs s_inverse) (defBody s_inverse) (defScope s_inverse) .none kV_inverse dc_inverse pm_inverse an_inverse cd_inverse ct_inverse, f_scaled, PySem.W.fnOf "scaled" "scaled" (defArgs s_scaled) (defBody s_scaled) (defScope s_scaled) .none kV_scaled dc_scaled pm_scaled an_scaled cd_scaled ct_scaled, f_added, PySem.W.fnOf "added" "added" (defArgs s_added) (defBody s_added) (defScope s_added) .none kV_added dc_added pm_added an_added cd_added ct_added, f_solved_field, PySem.W.fnOf "solved" "solved" (defArgs s_solved_field) (defBody s_solved_field) (defScope s_solved_field) .none kV_solved_field dc_solved_field pm_solved_field an_solved_field cd_solved_field ct_solved_field, f_read_rows, PySem.W.fnOf "read_rows" "read_rows" (defArgs s_read_rows) (defBody s_read_rows) (defScope s_read_rows) .none kV_read_rows dc_read_rows pm_read_rows an_read_rows cd_read_rows ct_read_rows, f_write_rows, PySem.W.fnOf "write_rows" "write_rows" (defArgs s_write_rows) (defBody s_write_rows) (defScope s_write_rows) .none kV_write_rows dc_write_rows pm_write_rows an_write_rows cd_write_rows ct_write_rows, f_factor_of, PySem.W.fnOf "factor_of" "factor_of" (defArgs s_factor_of) (defBody s_factor_of) (defScope s_factor_of) .none kV_factor_of dc_factor_of pm_factor_of an_factor_of cd_factor_of ct_factor_of, f_row_sum, PySem.W.fnOf "row_sum" "row_sum" (defArgs s_row_sum) (defBody s_row_sum) (defScope s_row_sum) .none kV_row_sum dc_row_sum pm_row_sum an_row_sum cd_row_sum ct_row_sum, f_longest_row, PySem.W.fnOf "longest_row" "longest_row" (defArgs s_longest_row) (defBody s_longest_row) (defScope s_longest_row) .none kV_longest_row dc_longest_row pm_longest_row an_longest_row cd_longest_row ct_longest_row, f_piece_at, PySem.W.fnOf "piece_at" "piece_at" (defArgs s_piece_at) (defBody s_piece_at) (defScope s_piece_at) .none kV_piece_at dc_piece_at pm_piece_at an_piece_at cd_piece_at ct_piece_at, f_read_pieces, PySem.W.fnOf "read_pieces" "read_pieces" (defArgs s_read_pieces) (defBody s_read_pieces) (defScope s_read_pieces) .none kV_read_pieces dc_read_pieces pm_read_pieces an_read_pieces cd_read_pieces ct_read_pieces, f_goes_with, PySem.W.fnOf "goes_with" "goes_with" (defArgs s_goes_with) (defBody s_goes_with) (defScope s_goes_with) .none kV_goes_with dc_goes_with pm_goes_with an_goes_with cd_goes_with ct_goes_with, f_made_anew, PySem.W.fnOf "made_anew" "made_anew" (defArgs s_made_anew) (defBody s_made_anew) (defScope s_made_anew) .none kV_made_anew dc_made_anew pm_made_anew an_made_anew cd_made_anew ct_made_anew, f_frame_of_row, PySem.W.fnOf "frame_of_row" "frame_of_row" (defArgs s_frame_of_row) (defBody s_frame_of_row) (defScope s_frame_of_row) .none kV_frame_of_row dc_frame_of_row pm_frame_of_row an_frame_of_row cd_frame_of_row ct_frame_of_row, f_counted, PySem.W.fnOf "counted" "counted" (defArgs s_counted) (defBody s_counted) (defScope s_counted) .none kV_counted dc_counted pm_counted an_counted cd_counted ct_counted, f_anew, PySem.W.fnOf "anew" "anew" (defArgs s_anew) (defBody s_anew) (defScope s_anew) .none kV_anew dc_anew pm_anew an_anew cd_anew ct_anew, f_Piece_init, PySem.W.fnOf "__init__" "Piece.__init__" (defArgs s_Piece_init) (defBody s_Piece_init) (defScope s_Piece_init) .none kV_Piece_init dc_Piece_init pm_Piece_init an_Piece_init cd_Piece_init ct_Piece_init, c_Piece, c_Unfit, c_Unmade, t_LONGEST, t_CRC32_SIZE, t_MODULUS, t_MARK_spares, t_MOST_FRAMES, t_MOST_PIECES, t_LENGTH_SIZE, t_SHORTEST_ROW, t_LONGEST_ROW, t_FRONT_SIZE, t_FIRST_DIVISOR, t_GROUP_NUMBERS, a_CRC32_STEPS⟩, ?_⟩
  exact {
    F_to_octets := F_to_octets,
    b_to_octets := F_to_octets.binds (ps := ["count", "number"]) fun _ _ _ _ _ _ us hl => match us, hl with | [_, _], _ => rfl,
    m_to_octets := PySem.W.mg_of X G a_to_octets,
    F_from_octets := F_from_octets,
    b_from_octets := F_from_octets.binds (ps := ["data"]) fun _ _ _ _ _ _ us hl => match us, hl with | [_], _ => rfl,
    m_from_octets := PySem.W.mg_of X G a_from_octets,
    F_crc32 := F_crc32,
    b_crc32 := F_crc32.binds (ps := ["data"]) fun _ _ _ _ _ _ us hl => match us, hl with | [_], _ => rfl,
    m_crc32 := PySem.W.mg_of X G a_crc32,
    F_products := F_products,
    b_products := F_products.binds (ps := ["factor"]) fun _ _ _ _ _ _ us hl => match us, hl with | [_], _ => rfl,
    m_products := PySem.W.mg_of X G a_products,
    F_inverse := F_inverse,
    b_inverse := F_inverse.binds (ps := ["number"]) fun _ _ _ _ _ _ us hl => match us, hl with | [_], _ => rfl,
    m_inverse := PySem.W.mg_of X G a_inverse,
    F_scaled := F_scaled,
    b_scaled := F_scaled.binds (ps := ["factor", "data"]) fun _ _ _ _ _ _ us hl => match us, hl with | [_, _], _ => rfl,
    m_scaled := PySem.W.mg_of X G a_scaled,
    F_added := F_added,
    b_added := F_added.binds (ps := ["one", "other"]) fun _ _ _ _ _ _ us hl => match us, hl with | [_, _], _ => rfl,
    m_added := PySem.W.mg_of X G a_added,
    F_solved_field := F_solved_field,
    b_solved_field := F_solved_field.binds (ps := ["equations"]) fun _ _ _ _ _ _ us hl => match us, hl with | [_], _ => rfl,
    m_solved_field := PySem.W.mg_of X G a_solved_field,
    F_read_rows := F_read_rows,
    b_read_rows := F_read_rows.binds (ps := ["rows", "least"]) fun _ _ _ _ _ _ us hl => match us, hl with | [_, _], _ => rfl,
    m_read_rows := PySem.W.mg_of X G a_read_rows,
    F_write_rows := F_write_rows,
    b_write_rows := F_write_rows.binds (ps := ["frames"]) fun _ _ _ _ _ _ us hl => match us, hl with | [_], _ => rfl,
    m_write_rows := PySem.W.mg_of X G a_write_rows,
    F_factor_of := F_factor_of,
    b_factor_of := F_factor_of.binds (ps := ["i", "j"]) fun _ _ _ _ _ _ us hl => match us, hl with | [_, _], _ => rfl,
    m_factor_of := PySem.W.mg_of X G a_factor_of,
    F_row_sum := F_row_sum,
    b_row_sum := F_row_sum.binds (ps := ["j", "row_size", "frames"]) fun _ _ _ _ _ _ us hl => match us, hl with | [_, _, _], _ => rfl,
    m_row_sum := PySem.W.mg_of X G a_row_sum,
    F_longest_row := F_longest_row,
    b_longest_row := F_longest_row.binds (ps := ["frames"]) fun _ _ _ _ _ _ us hl => match us, hl with | [_], _ => rfl,
    m_longest_row := PySem.W.mg_of X G a_longest_row,
    F_piece_at := F_piece_at,
    b_piece_at := F_piece_at.binds (ps := ["data", "place"]) fun _ _ _ _ _ _ us hl => match us, hl with | [_, _], _ => rfl,
    m_piece_at := PySem.W.mg_of X G a_piece_at,
    F_read_pieces := F_read_pieces,
    b_read_pieces := F_read_pieces.binds (ps := ["g", "data"]) fun _ _ _ _ _ _ us hl => match us, hl with | [_, _], _ => rfl,
    m_read_pieces := PySem.W.mg_of X G a_read_pieces,
    F_goes_with := F_goes_with,
    b_goes_with := F_goes_with.binds (ps := ["piece", "other"]) fun _ _ _ _ _ _ us hl => match us, hl with | [_, _], _ => rfl,
    m_goes_with := PySem.W.mg_of X G a_goes_with,
    F_made_anew := F_made_anew,
    b_made_anew := F_made_anew.binds (ps := ["frames", "pieces"]) fun _ _ _ _ _ _ us hl => match us, hl with | [_, _], _ => rfl,
    m_made_anew := PySem.W.mg_of X G a_made_anew,
    F_frame_of_row := F_frame_of_row,
    b_frame_of_row := F_frame_of_row.binds (ps := ["row"]) fun _ _ _ _ _ _ us hl => match us, hl with | [_], _ => rfl,
    m_frame_of_row := PySem.W.mg_of X G a_frame_of_row,
    F_counted := F_counted,
    b_counted := F_counted.binds (ps := ["data"]) fun _ _ _ _ _ _ us hl => match us, hl with | [_], _ => rfl,
    m_counted := PySem.W.mg_of X G a_counted,
    F_anew := F_anew,
    b_anew := F_anew.binds (ps := ["g", "rows", "pieces"]) fun _ _ _ _ _ _ us hl => match us, hl with | [_, _, _], _ => rfl,
    m_anew := PySem.W.mg_of X G a_anew,
    F_Piece_init := F_Piece_init,
    b_Piece_init := F_Piece_init.binds (ps := ["self", "g", "j", "row"]) fun _ _ _ _ _ _ us hl => match us, hl with | [_, _, _, _], _ => rfl,
    l_Piece := ⟨pg_Piece, hd_Piece, po_Piece, sa_Piece⟩,
    m_Piece := PySem.W.mg_of X G a_Piece,
    k_Piece := ⟨mk_Piece, a_Piece_init, i_Piece_init, kc_Piece⟩,
    n_Piece_g := n_Piece_g,
    n_Piece_j := n_Piece_j,
    n_Piece_row := n_Piece_row,
    n_Piece_size := n_Piece_size,
    m_Unfit := PySem.W.mg_of X G a_Unfit,
    x_Unfit := ⟨x_Unfit, y_Unfit⟩,
    m_Unmade := PySem.W.mg_of X G a_Unmade,
    x_Unmade := ⟨x_Unmade, y_Unmade⟩,
    d_Unfit_Unmade := beq_eq_false_iff_ne.mp d_Unfit_Unmade,
    g_LONGEST := PySem.W.mg_of X G g_LONGEST,
    g_CRC32_SIZE := PySem.W.mg_of X G g_CRC32_SIZE,
    g_MODULUS := PySem.W.mg_of X G g_MODULUS,
    g_MARK_spares := PySem.W.mg_of X G g_MARK_spares,
    g_MOST_FRAMES := PySem.W.mg_of X G g_MOST_FRAMES,
    g_MOST_PIECES := PySem.W.mg_of X G g_MOST_PIECES,
    g_LENGTH_SIZE := PySem.W.mg_of X G g_LENGTH_SIZE,
    g_SHORTEST_ROW := PySem.W.mg_of X G g_SHORTEST_ROW,
    g_LONGEST_ROW := PySem.W.mg_of X G g_LONGEST_ROW,
    g_FRONT_SIZE := PySem.W.mg_of X G g_FRONT_SIZE,
    g_FIRST_DIVISOR := PySem.W.mg_of X G g_FIRST_DIVISOR,
    g_GROUP_NUMBERS := PySem.W.mg_of X G g_GROUP_NUMBERS,
    g_CRC32_STEPS := PySem.W.mg_of X G g_CRC32_STEPS,
    q_CRC32_STEPS := fun H => .inr ⟨_, _, _, t_CRC32_STEPS, rfl, rfl, (by show 16 ≤ sizeLine; decide), .cons ⟨_, rfl⟩ (.cons ⟨_, rfl⟩ (.cons ⟨_, rfl⟩ (.cons ⟨_, rfl⟩ (.cons ⟨_, rfl⟩ (.cons ⟨_, rfl⟩ (.cons ⟨_, rfl⟩ (.cons ⟨_, rfl⟩ (.cons ⟨_, rfl⟩ (.cons ⟨_, rfl⟩ (.cons ⟨_, rfl⟩ (.cons ⟨_, rfl⟩ (.cons ⟨_, rfl⟩ (.cons ⟨_, rfl⟩ (.cons ⟨_, rfl⟩ (.cons ⟨_, rfl⟩ (.nil))))))))))))))))⟩,
    z_all := PySem.W.mg_none_of X G z_all,
    z_any := PySem.W.mg_none_of X G z_any,
    z_enumerate := PySem.W.mg_none_of X G z_enumerate,
    z_len := PySem.W.mg_none_of X G z_len,
    z_list := PySem.W.mg_none_of X G z_list,
    z_max := PySem.W.mg_none_of X G z_max,
    z_range := PySem.W.mg_none_of X G z_range,
    z_zip := PySem.W.mg_none_of X G z_zip,
    entry := fun s us hu => match us, hu with | [_, _, _], _ => .of_eq rfl
  }
end Wg
namespace Wg
open PySem PySem.Spec PyProof.Rows L2
def hide (D : Addr) (H : Hp) : Hp := fun b => if b = D then none else H b
theorem hide_ne {D b : Addr} {H : Hp} (h : b ≠ D) : hide D H b = H b := by unfold hide; rw [if_neg h]
theorem hide_some {D b : Addr} {H : Hp} {o : HO} (h : hide D H b = some o) : H b = some o ∧ b ≠ D := by
  unfold hide at h
  by_cases e : b = D
  · rw [if_pos e] at h; cases h
  · rw [if_neg e] at h; exact ⟨h, e⟩
theorem hide_same (D : Addr) (H : Hp) : Same (hide D H) H := fun b o h => (hide_some h).1
theorem hide_mono {D : Addr} {H H' : Hp} (s : Same H H') : Same (hide D H) (hide D H') := fun b o h => by
  obtain ⟨h1, h2⟩ := hide_some h
  rw [hide_ne h2]; exact s b o h1
theorem hide_upd (D : Addr) (H : Hp) (o : HO) : hide D (upd H D o) = hide D H := by
  funext b
  unfold hide
  by_cases e : b = D
  · rw [if_pos e, if_pos e]
  · rw [if_neg e, if_neg e, upd_ne e]
theorem same_new {H : Hp} {p : Addr} {o : HO} (h : H p = none) : Same H (upd H p o) := fun b u e => by rw [upd_ne (ne_of_none e h)]; exact e
theorem same_keep {H H' : Hp} {p : Addr} {o : HO} (s : Same H H') (h : H p = none) : Same H (upd H' p o) := fun b u e => by rw [upd_ne (ne_of_none e h)]; exact s b u e
theorem lc_rel {J : It} {H1 : Hp} {D : Addr} {σ : L2.St} {vs : List Nat} {g : TG} {te : TE} {Qf : Hp → Prop} (hD : H1 D = none) (n : Nat) (hn : n ≤ sizeLine) (Pr : Nat → V → Hp → Prop)
    (stay : ∀ k v H H', k < n → Same H H' → Pr k v H → Pr k v H')
    (hgo : ∀ i Hh, i < n → Same H1 Hh → J.go i Hh) (hstop : ∀ Hh, Same H1 Hh → J.stop n Hh)
    (turn : ∀ i Hh x H', i < n → Same H1 Hh → (∃ acc, Hh D = some (.lst acc)) → J.yld i Hh x H' → ∀ C : VK, (∀ y H4, Same Hh H4 → Pr i y (hide D H4) → C y H4) → g x (wipe σ vs) H' fun σ2 H2 => wipe σ2 vs = wipe σ vs ∧ te σ2 H2 C)
    (fin : ∀ Hh xs, Same H1 Hh → xs.length = n → (∀ (k : Nat) (v : V), xs[k]? = some v → Pr k v Hh) → Hh D = some (.lst xs) → Qf Hh) :
    ∃ W : Nat → Nat → Hp → Prop, (∃ m, W 0 m (upd H1 D (.lst []))) ∧ ∀ i m H, W i m H →
      (J.stop i H ∧ Qf H) ∨ (J.go i H ∧ ∃ Nx : Hp → Prop, (∀ H', Nx H' → ∃ m', m' < m ∧ W (i + 1) m' H') ∧ ∀ x H', J.yld i H x H' → g x (wipe σ vs) H' fun σ2 H2 => wipe σ2 vs = wipe σ vs ∧ tYes σ2 H2 fun b H3 =>
        if b = true then te σ2 H3 fun y H4 => ∃ acc, H4 D = some (.lst acc) ∧ acc.length < sizeLine ∧ Nx (upd H4 D (.lst (acc ++ [y]))) else Nx H3) := by
  refine ⟨fun i m H => i + m = n ∧ Same H1 H ∧ ∃ xs : List V, xs.length = i ∧ H D = some (.lst xs) ∧ ∀ (k : Nat) (v : V), xs[k]? = some v → Pr k v (hide D H), ⟨n, by omega, same_new hD, [], rfl, upd_same, fun k v e => by simp at e⟩, ?_⟩
  rintro i m H ⟨hm, s1, xs, hl, hx, hp⟩
  by_cases hi : i = n
  · subst hi
    exact .inl ⟨hstop H s1, fin H xs s1 hl (fun k v e => stay k v _ _ (by have := (List.getElem?_eq_some_iff.mp e).1; omega) (hide_same D H) (hp k v e)) hx⟩
  · have hi : i < n := by omega
    refine .inr ⟨hgo i H hi s1, fun H' => ∃ m', m' < m ∧ i + 1 + m' = n ∧ Same H1 H' ∧ ∃ xs : List V, xs.length = i + 1 ∧ H' D = some (.lst xs) ∧ ∀ (k : Nat) (v : V), xs[k]? = some v → Pr k v (hide D H'), fun H' h => ?_, fun x H' hy => ?_⟩
    · obtain ⟨m', h1, h2, h3⟩ := h
      exact ⟨m', h1, h2, h3⟩
    · refine turn i H x H' hi s1 ⟨xs, hx⟩ hy _ fun y H4 s4 p4 => ?_
      refine ⟨xs, s4 _ _ hx, by omega, m - 1, by omega, by omega, same_keep (s1.trans s4) hD, xs ++ [y], by rw [List.length_append, hl]; rfl, upd_same, fun k v e => ?_⟩
      rw [hide_upd]
      by_cases hk : k < xs.length
      · rw [List.getElem?_append_left hk] at e
        exact stay k v _ _ (by omega) (hide_mono s4) (hp k v e)
      · rw [List.getElem?_append_right (by omega)] at e
        have hk0 : k - xs.length = 0 := by
          have := (List.getElem?_eq_some_iff.mp e).1
          simp at this; omega
        rw [hk0] at e
        have e := Option.some.inj e
        subst e
        have : k = i := by omega
        subst this
        exact p4
theorem lc_val {J : It} {H1 : Hp} {D : Addr} {σ : L2.St} {vs : List Nat} {g : TG} {te : TE} {Qf : Hp → Prop} (hD : H1 D = none) (n : Nat) (hn : n ≤ sizeLine) (val : Nat → V)
    (hgo : ∀ i Hh, i < n → Same H1 Hh → J.go i Hh) (hstop : ∀ Hh, Same H1 Hh → J.stop n Hh)
    (turn : ∀ i Hh x H', i < n → Same H1 Hh → J.yld i Hh x H' → ∀ C : VK, (∀ H4, Same Hh H4 → C (val i) H4) → g x (wipe σ vs) H' fun σ2 H2 => wipe σ2 vs = wipe σ vs ∧ te σ2 H2 C)
    (fin : ∀ Hh, Same H1 Hh → Hh D = some (.lst ((List.range n).map val)) → Qf Hh) :
    ∃ W : Nat → Nat → Hp → Prop, (∃ m, W 0 m (upd H1 D (.lst []))) ∧ ∀ i m H, W i m H →
      (J.stop i H ∧ Qf H) ∨ (J.go i H ∧ ∃ Nx : Hp → Prop, (∀ H', Nx H' → ∃ m', m' < m ∧ W (i + 1) m' H') ∧ ∀ x H', J.yld i H x H' → g x (wipe σ vs) H' fun σ2 H2 => wipe σ2 vs = wipe σ vs ∧ tYes σ2 H2 fun b H3 =>
        if b = true then te σ2 H3 fun y H4 => ∃ acc, H4 D = some (.lst acc) ∧ acc.length < sizeLine ∧ Nx (upd H4 D (.lst (acc ++ [y]))) else Nx H3) := by
  refine lc_rel hD n hn (fun k v _ => v = val k) (fun _ _ _ _ _ _ h => h) hgo hstop (fun i Hh x H' hi s1 _ hy C hC => turn i Hh x H' hi s1 hy C fun H4 s4 => hC _ H4 s4 rfl) fun Hh xs s1 hl hp hx => fin Hh s1 ?_
  have : xs = (List.range n).map val := by
    refine List.ext_getElem? fun k => ?_
    by_cases hk : k < n
    · rw [List.getElem?_map, List.getElem?_range hk]
      have e := List.getElem?_eq_getElem (l := xs) (i := k) (by omega)
      rw [e, hp k _ e]; rfl
    · rw [List.getElem?_eq_none (by omega), List.getElem?_eq_none (by rw [List.length_map, List.length_range]; omega)]
  rw [← this]; exact hx
theorem pe_gi {X : Cx} {x : Str} {i : Int} {tk : Tok} {pos : Pos} (hg : Gl X x) (hm : X.mg x = some (.int i tk)) (hd : (x == ("__debug__" : Str)) = false := by decide) : PE X (.Name x pos) (tC (.int i)) := pe_glob hg hm (show RelV (.int i) (.int i tk) from ⟨tk, rfl⟩) hd
theorem pe_gr {X : Cx} {x : Str} {a : Addr} {pos : Pos} (hg : Gl X x) (hm : X.mg x = some (.ref a)) (hd : (x == ("__debug__" : Str)) = false := by decide) : PE X (.Name x pos) (tC (.ref a)) := pe_glob hg hm (show RelV (.ref a) (.ref a) from rfl) hd
theorem ixL {X : Cx} {K : PySem.W.Frag} (h : X.K = K) : IxR X (rIxL K) := by subst h; exact ix_list
theorem pfldK {X : Cx} {K : PySem.W.Frag} {e : Expr} {f : Str} {pos : Pos} {ta : TE} (h : X.K = K) (he : PE X e ta) (hb : attributeBase e f X.env (eval e X.env) = eval e X.env) : PE X (.Attribute e f pos) (tFld K ta f) := by subst h; exact pe_fld he hb
end Wg
namespace Wg
open PySem PySem.Spec PyProof.Rows L2
section
variable {P : Program} {w : World} {K : PySem.W.Frag} {mg : Str → Option Value} {base : Heap} {A : Adr}
theorem _root_.L2.Same.none {H H' : Hp} {b : Addr} (s : Same H H') (h : H' b = none) : H b = none := by
  cases q : H b with
  | none => rfl
  | some o => rw [s b o q] at h; cases h
def vN (F : List Nat) : List V := F.map fun (n : Nat) => V.int (n : Int)
theorem vN_int (F : List Nat) : vN F = (F.map fun (n : Nat) => (n : Int)).map V.int := by unfold vN; rw [List.map_map]; rfl
theorem vN_len (F : List Nat) : (vN F).length = F.length := by simp [vN]
theorem vN_get {F : List Nat} {i : Nat} (h : i < F.length) : (vN F)[i]? = some (.int ((F.getD i 0 : Nat) : Int)) := by
  unfold vN
  rw [List.getElem?_map, List.getElem?_eq_getElem h, List.getD_eq_getElem?_getD, List.getElem?_eq_getElem h]; rfl
theorem vN_get' {F : List Nat} {i : Nat} {x : V} (h : (vN F)[i]? = some x) : x = .int ((F.getD i 0 : Nat) : Int) ∧ i < F.length := by
  have hi : i < F.length := by
    have := (List.getElem?_eq_some_iff.mp h).1
    rwa [vN_len] at this
  rw [vN_get hi] at h
  exact ⟨(Option.some.inj h).symm, hi⟩
theorem vN_app (F G : List Nat) : vN (F ++ G) = vN F ++ vN G := by unfold vN; rw [List.map_append]
theorem cut_any {α : Type} (l : List α) (a b : Nat) : (l.drop (min a l.length)).take (min b l.length - min a l.length) = (l.drop a).take (b - a) := by
  have e : l.drop (min a l.length) = l.drop a := by
    rw [List.drop_eq_drop_iff]; omega
  rw [e, List.take_eq_take_iff, List.length_drop]; omega
theorem vN_cut (F : List Nat) (a b : Nat) : cutV (vN F) (some (a : Int)) (some (b : Int)) = vN ((F.drop a).take (b - a)) := by
  unfold cutV HT.sIx vN
  simp only [List.length_map]
  rw [if_neg (by omega), if_neg (by omega), Int.toNat_natCast, Int.toNat_natCast, ← List.map_drop, ← List.map_take, cut_any]
theorem vN_to (F : List Nat) (b : Nat) : cutV (vN F) none (some (b : Int)) = vN (F.take b) := by
  unfold cutV HT.sIx vN
  simp only [List.length_map]
  rw [if_neg (by omega), Int.toNat_natCast, ← List.map_drop, ← List.map_take, List.drop_zero, Nat.sub_zero]
  congr 1
  rw [List.take_eq_take_iff]; omega
theorem vN_from (F : List Nat) (a : Nat) : cutV (vN F) (some (a : Int)) none = vN (F.drop a) := by
  unfold cutV HT.sIx vN
  simp only [List.length_map]
  rw [if_neg (by omega), Int.toNat_natCast, ← List.map_drop, ← List.map_take]
  congr 1
  rw [show F.drop (min a F.length) = F.drop a by rw [List.drop_eq_drop_iff]; omega, List.take_of_length_le (by rw [List.length_drop]; omega)]
theorem pow256 (k : Nat) : 256 ^ k = 2 ^ (8 * k) := by rw [Nat.pow_mul]
theorem rng_down8 {nb : Nat} (h : nb ≤ 100000000) : RgC (8 * (nb : Int) - 8) (-1) (-8) nb := by
  refine ⟨by decide, by decide, ?_, ?_⟩
  · unfold Builtin.Range.small Builtin.Range.rangeSize
    simp only [Builtin.Range.rangeFitsLong, Bool.and_eq_true, Bool.or_eq_true, decide_eq_true_eq, beq_iff_eq, show ¬ ((-8 : Int) > 0) by decide, if_false, show -(-8 : Int) = 8 by decide]
    split <;> omega
  · unfold Builtin.Range.rangeSize
    rw [if_neg (by decide), show -(-8 : Int) = 8 by decide]
    split <;> omega
abbrev NewN (H : Hp) (Q : VK) (l : List Nat) : Prop := ∀ D H', H D = none → Same H H' → H' D = some (.lst (vN l)) → Q (.ref D) H'
theorem from_lt : ∀ (l : List Nat), (∀ x ∈ l, x < 256) → ∀ n, l.foldl (fun n c => 256 * n + c) n < (n + 1) * 256 ^ l.length
  | [], _, n => by simp
  | x :: l, h, n => by
    have := from_lt l (fun y hy => h y (List.mem_cons_of_mem _ hy)) (256 * n + x)
    rw [List.foldl_cons, List.length_cons, Nat.pow_succ]
    have hx := h x (List.mem_cons_self ..)
    have h2 : (256 * n + x + 1) * 256 ^ l.length ≤ ((n + 1) * 256) * 256 ^ l.length := Nat.mul_le_mul_right _ (by omega)
    have e : (n + 1) * (256 ^ l.length * 256) = (n + 1) * 256 * 256 ^ l.length := by rw [Nat.mul_comm (256 ^ l.length), Nat.mul_assoc]
    omega
theorem fromN_lt {l : List Nat} (h : ∀ x ∈ l, x < 256) : fromN l < 256 ^ l.length := by
  have := from_lt l h 0
  rwa [Nat.zero_add, Nat.one_mul] at this
theorem take_fold {α β : Type} (f : β → α → β) (l : List α) (i : Nat) (h : i < l.length) (b : β) : (l.take (i + 1)).foldl f b = f ((l.take i).foldl f b) l[i] := by
  rw [List.take_succ, List.getElem?_eq_getElem h, List.foldl_append]; rfl
theorem getD_lt {l : List Nat} {m i : Nat} (h : ∀ x ∈ l, x < m) (hi : i < l.length) : l.getD i 0 < m := h _ (by rw [List.getD_eq_getElem?_getD, List.getElem?_eq_getElem hi]; exact List.getElem_mem hi)
theorem getD_at {l : List Nat} {i : Nat} (hi : i < l.length) : l.getD i 0 = l[i] := by rw [List.getD_eq_getElem?_getD, List.getElem?_eq_getElem hi]; rfl
theorem or_low {n b : Nat} (h : b < 256) : (256 * n) ||| b = 256 * n + b := by
  have := Nat.two_pow_add_eq_or_of_lt (i := 8) h n
  exact this.symm
theorem bits_lt {n k : Nat} (h : n < 2 ^ k) : Builtin.Int.intBits ((n : Nat) : Int) ≤ k := by rw [bl_int]; exact bl_le h
theorem for_gen {J : It} {g : TG} {tb : TS} {D : Ends} {σ : L2.St} {H : Hp} (n : Nat) (Pv : Nat → L2.St → Hp → Prop) (h0 : Pv 0 σ H) (hgo : ∀ i σ H, i < n → Pv i σ H → J.go i H) (hstop : ∀ σ H, Pv n σ H → J.stop n H)
    (hs : ∀ i σ H x H', i < n → Pv i σ H → J.yld i H x H' → g x σ H' fun σ2 H2 => tb { D with nx := Pv (i + 1), ct := Pv (i + 1), bk := D.nx } σ2 H2) (hd : ∀ σ H, Pv n σ H → D.nx σ H) :
    ∃ W : Nat → Nat → L2.St → Hp → Prop, (∃ m, W 0 m σ H) ∧ ∀ i m σ H, W i m σ H →
      (J.stop i H ∧ D.nx σ H) ∨ (J.go i H ∧ ∃ N : L2.St → Hp → Prop, (∀ σ' H', N σ' H' → ∃ m', m' < m ∧ W (i + 1) m' σ' H') ∧ ∀ x H', J.yld i H x H' → g x σ H' fun σ2 H2 => tb { D with nx := N, ct := N, bk := D.nx } σ2 H2) := by
  refine ⟨fun i m σ H => i + m = n ∧ Pv i σ H, ⟨n, by omega, h0⟩, ?_⟩
  rintro i m σ H ⟨hm, p⟩
  by_cases hi : i = n
  · subst hi
    exact .inl ⟨hstop σ H p, hd σ H p⟩
  · exact .inr ⟨hgo i σ H (by omega) p, Pv (i + 1), fun σ' H' p' => ⟨m - 1, by omega, by omega, p'⟩, fun x H' y => hs i σ H x H' (by omega) p y⟩
theorem map_getD {f : Nat → Nat} (l : List Nat) : (List.range l.length).map (fun i => V.int ((f (l.getD i 0) : Nat) : Int)) = vN (l.map f) := by
  unfold vN
  rw [List.map_map]
  refine List.ext_getElem (by simp) fun i h1 h2 => ?_
  simp at h1 h2
  simp [List.getD_eq_getElem?_getD, List.getElem?_eq_getElem h2]
theorem pgtK {X : Cx} {K : PySem.W.Frag} {pos : Pos} {es : List Expr} {k : Nat} {t : TGs} {n : Nat} (h : X.K = K) (hc : X.calm = true) (hg : PGs X es t)
    (hn : (assignEach es X.env).length = n := by rfl) (hst : (assignEach es X.env).findIdx? (·.1) = none := by rfl) : PG X (.Tuple es k pos) (gTup K n t) := by subst h; exact pg_tup hc hg hn hst
theorem lenK {X : Cx} {K : PySem.W.Frag} (h : X.K = K) : CallR X (.builtin "len") (fun xs H Q => ∃ p ys, xs = [.ref p] ∧ (SqL K H p ys ∨ SqT K H p ys) ∧ Q (.int ys.length) H) := by subst h; exact call_len_seq
theorem ref_get' {as : List Addr} {i : Nat} {x : V} (h : (as.map V.ref)[i]? = some x) : ∃ a, x = .ref a ∧ as[i]? = some a := by
  rw [List.getElem?_map] at h
  cases e : as[i]? with
  | none => rw [e] at h; cases h
  | some a => rw [e] at h; exact ⟨a, (Option.some.inj h).symm, rfl⟩
theorem ref_get {as : List Addr} {i : Nat} (h : i < as.length) : ∃ a, (as.map V.ref)[i]? = some (.ref a) ∧ as[i]? = some a := ⟨as[i], by rw [List.getElem?_map, List.getElem?_eq_getElem h]; rfl, List.getElem?_eq_getElem h⟩
def bn (b : Sound.Bytes) : List Nat := b.map UInt8.toNat
theorem bn_len (b : Sound.Bytes) : (bn b).length = b.length := by unfold bn; rw [List.length_map]
theorem bn_lt (b : Sound.Bytes) : ∀ x ∈ bn b, x < 256 := fun x hx => by
  obtain ⟨c, _, rfl⟩ := List.mem_map.mp hx
  exact c.toNat_lt
theorem bn_drop (b : Sound.Bytes) (n : Nat) : (bn b).drop n = bn (b.drop n) := by unfold bn; rw [List.map_drop]
theorem bn_take (b : Sound.Bytes) (n : Nat) : (bn b).take n = bn (b.take n) := by unfold bn; rw [List.map_take]
theorem bn_app (a b : Sound.Bytes) : bn (a ++ b) = bn a ++ bn b := by unfold bn; rw [List.map_append]
def muAt (i n : Nat) : L2.St → Hp → Nat := fun σ _ => match σ[i]? with
  | some (some (.int p)) => n - p.toNat
  | _ => 0
theorem while_cps {c : TT} {tb : TS} {D : Ends} {σ : L2.St} {H : Hp} (Pv : L2.St → Hp → Prop) (μ : L2.St → Hp → Nat) (h0 : Pv σ H)
    (hs : ∀ σ H, Pv σ H → ∀ C : Bool → Hp → Prop, (∀ H1, tb { D with nx := fun σ' H' => Pv σ' H' ∧ μ σ' H' < μ σ H, ct := fun σ' H' => Pv σ' H' ∧ μ σ' H' < μ σ H, bk := D.nx } σ H1 → C true H1) → (∀ H1, D.nx σ H1 → C false H1) → c σ H C) : tWhile c tb D σ H := by
  refine ⟨fun m σ H => m = μ σ H ∧ Pv σ H, ⟨_, rfl, h0⟩, ?_⟩
  rintro m σ H ⟨rfl, p⟩
  exact hs σ H p _ (fun H1 h => ⟨_, fun σ' H' ⟨p', l⟩ => ⟨_, l, rfl, p'⟩, h⟩) (fun H1 h => h)
def newOf (H H' : Hp) : Hp := fun b => match H b with
  | none => H' b
  | some _ => none
theorem newOf_at {H H' : Hp} {b : Addr} (h : H b = none) : newOf H H' b = H' b := by unfold newOf; rw [h]
theorem newOf_in {H H' : Hp} {b : Addr} {o : HO} (h : newOf H H' b = some o) : H b = none ∧ H' b = some o := by
  unfold newOf at h
  cases e : H b with
  | none => rw [e] at h; exact ⟨rfl, h⟩
  | some u => rw [e] at h; cases h
theorem newOf_same (H H' : Hp) : Same (newOf H H') H' := fun b o h => (newOf_in h).2
def spToOct : Sp := fun vs H Q _ => ∃ c n : Nat, vs = [.int c, .int n] ∧ c ≤ 1000 ∧ NewN H Q (hiN c n)
theorem sc_to_octets : FnScope ["count", "number", "shift"] ["count", "number"] (defScope s_to_octets) := ⟨rfl, rfl, rfl, by decide +kernel, rfl, by decide +kernel, by decide +kernel⟩
theorem ok_to_octets (T : Txt K mg A) : FnOk P w K mg base CX0 1 A.f_to_octets A.d_to_octets ["count", "number"] spToOct := by
  refine T.F_to_octets.ok sc_to_octets (fun vs H Q E h => ?_) (fun cdv Ar outer s H vs Q E hr h => ?_)
  · obtain ⟨c, n, rfl, _⟩ := h
    rfl
  · obtain ⟨c, n, rfl, hc, k⟩ := h
    refine ⟨_, pss_one (ps_ret (pe_lc (own := [("shift", 2)]) rfl sc_to_octets.nd (pi_range3 rfl T.z_range (pa_cons (pe_op op_sub (pe_op op_mul pe_int (pv 0)) pe_int) (pa_cons (pe_un un_neg pe_int) (pa_cons (pe_un un_neg pe_int) pa_nil))))
      (blkOk_by (by kernel_rfl)) (fun _ _ _ _ _ => pg_name (i := 2) sc_to_octets.nd rfl (Or.inl rfl)) (fun _ _ _ _ _ => pts_nil) (fun _ _ _ _ _ => pe_op op_and (pe_op op_shr (pv 1) (pv 2)) pe_int))), ?_⟩
    refine ⟨_, rfl, _, _, rfl, rfl, .inl ⟨by decide, by decide⟩, _, _, rfl, rfl, _, rfl, _, rfl, 8 * (c : Int) - 8, -1, -8, c, rfl, rng_down8 (by omega), fun D hD => ?_⟩
    refine lc_val (J := Itc (8 * (c : Int) - 8) (-8) c) hD c (by rw [sizeLine_eq]; omega) (fun i => .int ((n / 256 ^ (c - 1 - i) % 256 : Nat) : Int)) (fun i Hh hi s1 => hi) (fun Hh s1 => Nat.le_refl _) ?_ ?_
    · rintro i Hh z H' hi s1 ⟨rfl, rfl⟩ C hC
      have e1 : 8 * (c : Int) - 8 + (i : Nat) * (-8) = ((8 * (c - 1 - i) : Nat) : Int) := by omega
      rw [e1]
      refine ⟨rfl, _, rfl, _, rfl, _, _, rfl, rfl, (by omega), _, _, rfl, rfl, ?_⟩
      have e2 : ((n : Nat) : Int) / 2 ^ ((8 * (c - 1 - i) : Nat) : Int).toNat = ((n / 256 ^ (c - 1 - i) : Nat) : Int) := by rw [Int.toNat_natCast, pow256]; simp
      dsimp only
      rw [e2, and255]
      exact hC _ (Same.refl _)
    · intro Hh s1 hx
      refine k D Hh hD s1 (hx.trans ?_)
      unfold vN hiN
      rw [List.map_map]
      rfl
def spFrom (K : PySem.W.Frag) : Sp := fun vs H Q _ => ∃ (q : Addr) (l : List Nat), vs = [.ref q] ∧ SqL K H q (vN l) ∧ l.length ≤ 1000 ∧ (∀ x ∈ l, x < 256) ∧ Q (.int (fromN l : Nat)) H
theorem sc_from_octets : FnScope ["data", "number", "byte"] ["data"] (defScope s_from_octets) := ⟨rfl, rfl, rfl, by decide +kernel, rfl, by decide +kernel, by decide +kernel⟩
theorem ok_from_octets (T : Txt K mg A) : FnOk P w K mg base CX0 1 A.f_from_octets A.d_from_octets ["data"] (spFrom K) := by
  refine T.F_from_octets.ok sc_from_octets (fun vs H Q E h => ?_) (fun cdv Ar outer s H vs Q E hr h => ?_)
  · obtain ⟨q, l, rfl, _⟩ := h
    rfl
  · obtain ⟨q, l, rfl, hq, hl, hb, k⟩ := h
    refine ⟨_, pss_cons (ps_set (i := 1) sc_from_octets.nd rfl (Or.inl rfl) pe_int)
      (pss_cons (ps_for PassesOwn.never rfl (pi_list (pv 0)) (pg_name (i := 2) sc_from_octets.nd rfl (Or.inl rfl))
        (pss_one (ps_set (i := 1) sc_from_octets.nd rfl (Or.inl rfl) (pe_op op_or (pe_op op_shlB (pv 1) pe_int) (pv 2)))))
      (pss_one (ps_ret (pv 1)))), ?_⟩
    refine ⟨_, rfl, q, rfl, ⟨_, hq⟩, ?_⟩
    refine for_list (K := K) (a := q) (xs := vN l) (fun i σ H' => H' = H ∧ ∃ v2 : Option V, σ = [some (.ref q), some (.int (fromN (l.take i) : Nat)), v2]) ⟨rfl, none, rfl⟩ (fun i σ H' _ ⟨e, _⟩ => by rw [e]; exact hq) ?_ ?_
    · rintro i x σ H' hi ⟨rfl, v2, rfl⟩
      obtain ⟨rfl, hil⟩ := vN_get' hi
      have hlt := fromN_lt (l := l.take i) fun x hx => hb x (List.mem_of_mem_take hx)
      have hbits : Builtin.Int.intBits ((fromN (l.take i) : Nat) : Int) ≤ 8 * i := by
        rw [pow256, List.length_take] at hlt
        exact bits_lt (Nat.lt_of_lt_of_le hlt (Nat.pow_le_pow_right (by decide) (by omega)))
      have e27 : (2 : Int) ^ 27 = 134217728 := by decide
      refine ⟨_, rfl, _, _, rfl, rfl, ⟨by omega, by omega⟩, _, rfl, _, _, rfl, rfl, rfl, some (.int (l.getD i 0 : Nat)), ?_⟩
      have e : fromN (l.take (i + 1)) = 256 * fromN (l.take i) + l.getD i 0 := by
        unfold fromN
        rw [take_fold _ _ _ hil, getD_at hil]
      have ex : Builtin.bitOr (((fromN (l.take i) : Nat) : Int) * 2 ^ (8 : Int).toNat) ((l.getD i 0 : Nat) : Int) = ((fromN (l.take (i + 1)) : Nat) : Int) := by
        have e8 : ((fromN (l.take i) : Nat) : Int) * 2 ^ (8 : Int).toNat = ((256 * fromN (l.take i) : Nat) : Int) := by
          rw [show (2 : Int) ^ (8 : Int).toNat = 256 by decide]; omega
        rw [e8, bitOr_nat, or_low (getD_lt hb hil), e]
      show [some (V.ref q), some (V.int (Builtin.bitOr _ _)), _] = _
      rw [ex]
    · rintro σ H' ⟨rfl, v2, rfl⟩
      refine ⟨_, rfl, ?_⟩
      have : fromN (l.take (vN l).length) = fromN l := by rw [vN_len, List.take_length]
      rw [this]
      exact k
def spCrc32 (K : PySem.W.Frag) : Sp := fun vs H Q _ => ∃ (q : Addr) (l : List Nat), vs = [.ref q] ∧ SqL K H q (vN l) ∧ (∀ x ∈ l, x < 256) ∧ Q (.int (crcN l : Nat)) H
theorem sc_crc32 : FnScope ["data", "check", "byte"] ["data"] (defScope s_crc32) := ⟨rfl, rfl, rfl, by decide +kernel, rfl, by decide +kernel, by decide +kernel⟩
theorem and15 (n : Nat) : Builtin.bitAnd (n : Int) 15 = ((n % 16 : Nat) : Int) := by
  rw [show (15 : Int) = ((15 : Nat) : Int) from rfl, bitAnd_nat, show (15 : Nat) = 2 ^ 4 - 1 by decide, Nat.and_two_pow_sub_one_eq_mod]
theorem nib_step {c : Nat} {H : Hp} {a : Addr} {Qf : V → Hp → Prop} (hs : SqT K H a (vN STEPS)) (k : Qf (.int (nibN c : Nat)) H) {σ : L2.St} (hσ : σ[1]? = some (some (V.int (c : Nat)))) :
    tOp (rI0 fun i j => .int (Builtin.bitXor i j)) (tOp (rI (fun _ j => 0 ≤ j) fun i j => .int (i / 2 ^ j.toNat)) (tVar 1) (tC (.int 4))) (tOp (rIxT K) (tC (.ref a)) (tOp (rI0 fun i j => .int (Builtin.bitAnd i j)) (tVar 1) (tC (.int 15)))) σ H Qf := by
  refine ⟨_, hσ, _, _, rfl, rfl, (by show (0 : Int) ≤ 4; decide), _, hσ, _, _, rfl, rfl, ?_⟩
  dsimp only
  rw [and15]
  have hm : c % 16 < STEPS.length := Nat.mod_lt _ (by decide)
  refine ⟨a, _, _, _, rfl, rfl, hs, atI_nat (vN_get hm), _, _, rfl, rfl, ?_⟩
  have e : Builtin.bitXor (((c : Nat) : Int) / 2 ^ (4 : Int).toNat) ((STEPS.getD (c % 16) 0 : Nat) : Int) = ((nibN c : Nat) : Int) := by
    have e1 : ((c : Nat) : Int) / 2 ^ (4 : Int).toNat = ((c / 16 : Nat) : Int) := by rw [show (2 : Int) ^ (4 : Int).toNat = 16 by decide]; omega
    rw [e1, bitXor_nat]; rfl
  dsimp only
  rw [e]
  exact k
theorem ok_crc32 (T : Txt K mg A) : FnOk P w K mg base CX0 1 A.f_crc32 A.d_crc32 ["data"] (spCrc32 K) := by
  refine T.F_crc32.ok sc_crc32 (fun vs H Q E h => ?_) (fun cdv Ar outer s H vs Q E hr h => ?_)
  · obtain ⟨q, l, rfl, _⟩ := h
    rfl
  · obtain ⟨q, l, rfl, hq, hb, k⟩ := h
    refine ⟨_, pss_cons (ps_set (i := 1) sc_crc32.nd rfl (Or.inl rfl) pe_int)
      (pss_cons (ps_for PassesOwn.never rfl (pi_list (pv 0)) (pg_name (i := 2) sc_crc32.nd rfl (Or.inl rfl))
        (pss_cons (ps_aug (i := 1) sc_crc32.nd rfl (Or.inl rfl) (pv 2) iop_xor)
        (pss_cons (ps_set (i := 1) sc_crc32.nd rfl (Or.inl rfl) (pe_op op_xor (pe_op op_shr (pv 1) pe_int) (pe_ix ix_tup (pe_gr rfl T.g_CRC32_STEPS) (pe_op op_and (pv 1) pe_int) (fun _ _ => rfl))))
        (pss_one (ps_set (i := 1) sc_crc32.nd rfl (Or.inl rfl) (pe_op op_xor (pe_op op_shr (pv 1) pe_int) (pe_ix ix_tup (pe_gr rfl T.g_CRC32_STEPS) (pe_op op_and (pv 1) pe_int) (fun _ _ => rfl))))))))
      (pss_one (ps_ret (pe_op op_xor (pv 1) pe_int)))), ?_⟩
    refine ⟨_, rfl, q, rfl, ⟨_, hq⟩, ?_⟩
    have hS : ∀ H, SqT K H A.a_CRC32_STEPS (vN STEPS) := fun H => T.q_CRC32_STEPS H
    refine for_list (K := K) (a := q) (xs := vN l) (fun i σ H' => H' = H ∧ ∃ v2 : Option V, σ = [some (.ref q), some (.int ((l.take i).foldl crcBN 0xFFFFFFFF : Nat)), v2]) ⟨rfl, none, rfl⟩ (fun i σ H' _ ⟨e, _⟩ => by rw [e]; exact hq) ?_ ?_
    · rintro i x σ H' hi ⟨rfl, v2, rfl⟩
      obtain ⟨rfl, hil⟩ := vN_get' hi
      refine ⟨_, rfl, _, rfl, _, _, rfl, rfl, ?_⟩
      dsimp only
      rw [bitXor_nat]
      refine nib_step (hS _) (nib_step (hS _) ⟨rfl, some (.int (l.getD i 0 : Nat)), ?_⟩ rfl) rfl
      rw [take_fold _ _ _ hil, ← getD_at hil]
      rfl
    · rintro σ H' ⟨rfl, v2, rfl⟩
      refine ⟨_, rfl, _, _, rfl, rfl, ?_⟩
      dsimp only
      rw [vN_len, List.take_length, show (4294967295 : Int) = ((4294967295 : Nat) : Int) from rfl, bitXor_nat]
      exact k
theorem hiN_len (c n : Nat) : (hiN c n).length = c := by unfold hiN; rw [List.length_map, List.length_range]
theorem hiN_lt (c n : Nat) : ∀ x ∈ hiN c n, x < 256 := fun x hx => by
  unfold hiN at hx
  obtain ⟨i, _, rfl⟩ := List.mem_map.mp hx
  exact Nat.mod_lt _ (by decide)
def spProd : Sp := fun vs H Q _ => ∃ a : Nat, vs = [.int a] ∧ a < 256 ∧ NewN H Q ((List.range 256).map (Sound.mul a))
theorem sc_products : FnScope ["factor", "table", "power", "step", "product"] ["factor"] (defScope s_products) := ⟨rfl, rfl, rfl, by decide +kernel, rfl, by decide +kernel, by decide +kernel⟩
theorem tabN_len (a k : Nat) : (tabN a k).length = 2 ^ k := by unfold tabN; rw [List.length_map, List.length_range]
theorem ok_products (T : Txt K mg A) : FnOk P w K mg base CX0 1 A.f_products A.d_products ["factor"] spProd := by
  refine T.F_products.ok sc_products (fun vs H Q E h => ?_) (fun cdv Ar outer s H vs Q E hr h => ?_)
  · obtain ⟨a, rfl, _⟩ := h
    rfl
  · obtain ⟨a, rfl, ha, k⟩ := h
    refine ⟨_, pss_cons (ps_set (i := 1) sc_products.nd rfl (Or.inl rfl) (pe_lst (pa_cons pe_int pa_nil)))
      (pss_cons (ps_set (i := 2) sc_products.nd rfl (Or.inr rfl) (pv 0))
      (pss_cons (ps_for PassesOwn.never rfl (pi_range1 rfl T.z_range (pa_cons pe_int pa_nil)) (pg_name (i := 3) sc_products.nd rfl (Or.inl rfl))
        (pss_cons (ps_set (i := 1) sc_products.nd rfl (Or.inl rfl) (pe_op op_cat (pv 1) (pe_lc (own := [("product", 4)]) rfl sc_products.nd (pi_list (pv 1)) (blkOk_by (by kernel_rfl)) (fun _ _ _ _ _ => pg_name (i := 4) sc_products.nd rfl (Or.inl rfl)) (fun _ _ _ _ _ => pts_nil) (fun _ _ _ _ _ => pe_op op_xor (pv 4) (pv 2)))))
        (pss_cons (ps_aug (i := 2) sc_products.nd rfl (Or.inr rfl) pe_int iop_shl)
        (pss_one (ps_if (pt_cmpR op_gt (pv 2) pe_int (nomark _)) (pss_one (ps_aug (i := 2) sc_products.nd rfl (Or.inr rfl) (pe_gi rfl T.g_MODULUS) iop_xor)) pss_nil)))))
      (pss_one (ps_ret (pv 1))))), ?_⟩
    refine ⟨by rw [sizeLine_eq]; show 1 ≤ _; omega, fun t0 ht0 => ⟨_, rfl, _, rfl, by decide, by decide, ?_⟩⟩
    refine for_range (lo := 0) (n := 8) (fun j σ H' => ∃ (t : Addr) (v3 v4 : Option V), H t = none ∧ Same H H' ∧ H' t = some (.lst (vN (tabN a j))) ∧ σ = [some (.int a), some (.ref t), some (.int (powN a j : Nat)), v3, v4]) ⟨t0, none, none, ht0, same_new ht0, upd_same, rfl⟩ ?_ ?_
    · rintro j σ H1 hj ⟨t, v3, v4, ht, s1, hx, rfl⟩
      have hp := powN_lt ha j
      have h2j : 2 ^ j ≤ 128 := Nat.le_trans (Nat.pow_le_pow_right (by decide) (show j ≤ 7 by omega)) (by decide)
      refine ⟨_, rfl, _, rfl, t, rfl, ⟨_, SqL.of hx⟩, fun D hD => ?_⟩
      refine lc_val (J := Itl K t) hD (2 ^ j) (by rw [sizeLine_eq]; omega) (fun i => .int (((tabN a j).getD i 0 ^^^ powN a j : Nat) : Int)) (fun i Hh hi t1 => ⟨_, _, t1.seq (SqL.of hx), vN_get (by rw [tabN_len]; exact hi)⟩) (fun Hh t1 => ⟨_, t1.seq (SqL.of hx), by rw [vN_len, tabN_len]; exact Nat.le_refl _⟩) ?_ ?_
      · rintro i Hh z H' hi t1 ⟨rfl, hz⟩ C hC
        obtain ⟨rfl, _⟩ := vN_get' (hz _ (t1.seq (SqL.of hx)))
        refine ⟨rfl, _, rfl, _, rfl, _, _, rfl, rfl, ?_⟩
        dsimp only
        rw [bitXor_nat]
        exact hC _ (Same.refl _)
      · intro H2 s2 hx2
        have e2 : (List.range (2 ^ j)).map (fun i => V.int (((tabN a j).getD i 0 ^^^ powN a j : Nat) : Int)) = vN ((tabN a j).map fun p => p ^^^ powN a j) := by
          unfold vN
          rw [List.map_map]
          refine List.ext_getElem (by rw [List.length_map, List.length_map, List.length_range, tabN_len]) fun i h1 h2 => ?_
          simp at h1 h2
          simp [List.getD_eq_getElem?_getD, List.getElem?_eq_getElem h2]
        rw [e2] at hx2
        refine ⟨t, D, _, _, rfl, rfl, s2 _ _ hx, hx2, (by rw [vN_len, vN_len, List.length_map, tabN_len, sizeLine_eq]; omega), fun p hp2 => ?_⟩
        rw [← vN_app, ← tabN_succ]
        have n0 : H p = none := (s1.trans s2).none hp2
        refine ⟨_, rfl, _, _, rfl, rfl, ⟨by decide, by decide, by rw [Int.natAbs_natCast]; omega⟩, ?_⟩
        have e3 : ((powN a j : Nat) : Int) * 2 ^ (1 : Int).toNat = ((2 * powN a j : Nat) : Int) := by
          rw [show (2 : Int) ^ (1 : Int).toNat = 2 by decide]; omega
        dsimp only
        rw [e3]
        refine ⟨_, rfl, _, _, rfl, rfl, _, rfl, ?_⟩
        refine ite2 (fun hc2 => ?_) fun hc2 => ?_
        · have hc2 : (255 : Int) < ((2 * powN a j : Nat) : Int) := of_decide_eq_true hc2
          refine ⟨_, rfl, _, _, rfl, rfl, p, some (.int (0 + (j : Nat))), v4, n0, same_keep (s1.trans s2) n0, upd_same, ?_⟩
          show [_, _, some (V.int (Builtin.bitXor ((2 * powN a j : Nat) : Int) 285)), _, _] = _
          rw [show (285 : Int) = ((285 : Nat) : Int) from rfl, bitXor_nat]
          have : powN a (j + 1) = 2 * powN a j ^^^ 285 := by
            show Sound.times2 _ = _
            unfold Sound.times2
            rw [if_pos (by omega)]
          rw [this]
        · have hc2 : ¬ (255 : Int) < ((2 * powN a j : Nat) : Int) := fun z => hc2 (decide_eq_true z)
          refine ⟨p, some (.int (0 + (j : Nat))), v4, n0, same_keep (s1.trans s2) n0, upd_same, ?_⟩
          have : powN a (j + 1) = 2 * powN a j := by
            show Sound.times2 _ = _
            unfold Sound.times2
            rw [if_neg (by omega)]
          rw [this]; rfl
    · rintro σ H1 ⟨t, v3, v4, ht, s1, hx, rfl⟩
      exact ⟨_, rfl, k t H1 ht s1 hx⟩
theorem eqV_int (a b : Int) : eqV (.int a) (.int b) = decide (a = b) := by
  by_cases h : a = b
  · subst h; simp [eqV]
  · simp [eqV, h]
theorem flat_vN (F : List Nat) : (vN F).all flatV = true := by
  rw [List.all_eq_true]
  intro x hx
  obtain ⟨n, _, rfl⟩ := List.mem_map.mp hx
  rfl
def spInv : Sp := fun vs H Q _ => ∃ a : Nat, vs = [.int a] ∧ (a < 256 ∧ a ≠ 0) ∧ ∀ H', Same H H' → Q (.int (Sound.inverse a : Nat)) H'
theorem sc_inverse : FnScope ["number"] ["number"] (defScope s_inverse) := ⟨rfl, rfl, rfl, by decide +kernel, rfl, by decide +kernel, by decide +kernel⟩
theorem ok_inverse (T : Txt K mg A) : FnOk P w K mg base CX0 2 A.f_inverse A.d_inverse ["number"] spInv := by
  refine T.F_inverse.ok sc_inverse (fun vs H Q E h => ?_) (fun cdv Ar outer s H vs Q E hr h => ?_)
  · obtain ⟨a, rfl, _⟩ := h
    rfl
  · obtain ⟨a, rfl, ⟨ha, h0⟩, k⟩ := h
    refine ⟨_, pss_one (ps_ret (pe_bm PySem.F.plainAttrs_list PySem.F.slot_list_index PySem.F.type_list_index mt_index (pe_call (ok_products T) hr rfl T.m_products T.F_products.kp T.b_products .nil pass0 (pa_cons (pv 0) pa_nil)) (pa_cons pe_int pa_nil))), ?_⟩
    obtain ⟨i1, i2, i3⟩ := inv_first ha h0
    refine ⟨_, rfl, a, rfl, ha, fun D H1 hD s1 hx => ?_⟩
    have gt : ∀ b, b < 256 → ((List.range 256).map (Sound.mul a)).getD b 0 = Sound.mul a b := fun b hb => by
      rw [List.getD_eq_getElem?_getD, List.getElem?_map, List.getElem?_range hb]; rfl
    have hl : ((List.range 256).map (Sound.mul a)).length = 256 := by rw [List.length_map, List.length_range]
    refine ⟨.inl ⟨rfl, _, SqL.of hx⟩, D, _, .int 1, Sound.inverse a, _, rfl, rfl, SqL.of hx, rfl, flat_vN _, vN_get (by rw [hl]; exact i1), ?_, fun m z' hm hz => ?_, k _ s1⟩
    · rw [gt _ i1, i2]; rfl
    · obtain ⟨rfl, _⟩ := vN_get' hz
      rw [gt m (by omega), eqV_int]
      have := i3 m hm
      exact decide_eq_false (by omega)
def spScaled (K : PySem.W.Frag) : Sp := fun vs H Q _ => ∃ (a : Nat) (q : Addr) (l : List Nat), vs = [.int a, .ref q] ∧ a < 256 ∧ SqL K H q (vN l) ∧ (∀ x ∈ l, x < 256) ∧ l.length ≤ 100000 ∧ NewN H Q (l.map (Sound.mul a))
theorem sc_scaled : FnScope ["factor", "data", "table", "byte"] ["factor", "data"] (defScope s_scaled) := ⟨rfl, rfl, rfl, by decide +kernel, rfl, by decide +kernel, by decide +kernel⟩
theorem ok_scaled (T : Txt K mg A) : FnOk P w K mg base CX0 2 A.f_scaled A.d_scaled ["factor", "data"] (spScaled K) := by
  refine T.F_scaled.ok sc_scaled (fun vs H Q E h => ?_) (fun cdv Ar outer s H vs Q E hr h => ?_)
  · obtain ⟨a, q, l, rfl, _⟩ := h
    rfl
  · obtain ⟨a, q, l, rfl, ha, hq, hb, hl, k⟩ := h
    refine ⟨_, pss_cons (ps_set (i := 2) sc_scaled.nd rfl (Or.inr rfl) (pe_call (ok_products T) hr rfl T.m_products T.F_products.kp T.b_products .nil pass0 (pa_cons (pv 0) pa_nil)))
      (pss_one (ps_ret (pe_lc (own := [("byte", 3)]) rfl sc_scaled.nd (pi_list (pv 1)) (blkOk_by (by kernel_rfl)) (fun _ _ _ _ _ => pg_name (i := 3) sc_scaled.nd rfl (Or.inl rfl)) (fun _ _ _ _ _ => pts_nil) (fun _ _ _ _ _ => pe_ix (ixL (K := K) rfl) (pv 2) (pv 3) (fun _ _ => rfl))))), ?_⟩
    refine ⟨_, rfl, a, rfl, ha, fun D H1 hD s1 hx => ⟨_, rfl, q, rfl, ⟨_, s1.seq hq⟩, fun D2 hD2 => ?_⟩⟩
    refine lc_val (J := Itl K q) hD2 l.length (by rw [sizeLine_eq]; omega) (fun i => .int ((Sound.mul a (l.getD i 0) : Nat) : Int)) (fun i Hh hi t1 => ⟨_, _, t1.seq (s1.seq hq), vN_get hi⟩) (fun Hh t1 => ⟨_, t1.seq (s1.seq hq), by rw [vN_len]; exact Nat.le_refl _⟩) ?_ ?_
    · rintro i Hh z H' hi t1 ⟨rfl, hz⟩ C hC
      obtain ⟨rfl, _⟩ := vN_get' (hz _ (t1.seq (s1.seq hq)))
      have hbl := getD_lt hb hi
      have hg : ((List.range 256).map (Sound.mul a)).getD (l.getD i 0) 0 = Sound.mul a (l.getD i 0) := by
        rw [List.getD_eq_getElem?_getD, List.getElem?_map, List.getElem?_range hbl]; rfl
      have := vN_get (F := (List.range 256).map (Sound.mul a)) (i := l.getD i 0) (by rw [List.length_map, List.length_range]; exact hbl)
      rw [hg] at this
      exact ⟨rfl, _, rfl, _, rfl, D, _, _, _, rfl, rfl, t1.seq (SqL.of hx), atI_nat this, hC _ (Same.refl _)⟩
    · intro H2 s2 hx2
      rw [map_getD] at hx2
      exact k D2 H2 (s1.none hD2) (s1.trans s2) hx2
def spAdded (K : PySem.W.Frag) : Sp := fun vs H Q _ => ∃ (q r : Addr) (l m : List Nat), vs = [.ref q, .ref r] ∧ SqL K H q (vN l) ∧ SqL K H r (vN m) ∧ l.length = m.length ∧ l.length ≤ 100000 ∧ NewN H Q (Sound.added l m)
theorem sc_added : FnScope ["one", "other", "x", "y"] ["one", "other"] (defScope s_added) := ⟨rfl, rfl, rfl, by decide +kernel, rfl, by decide +kernel, by decide +kernel⟩
theorem ok_added (T : Txt K mg A) : FnOk P w K mg base CX0 1 A.f_added A.d_added ["one", "other"] (spAdded K) := by
  refine T.F_added.ok sc_added (fun vs H Q E h => ?_) (fun cdv Ar outer s H vs Q E hr h => ?_)
  · obtain ⟨q, r, l, m, rfl, _⟩ := h
    rfl
  · obtain ⟨q, r, l, m, rfl, hq, hr', hlm, hl, k⟩ := h
    refine ⟨_, pss_one (ps_ret (pe_lc (own := [("x", 2), ("y", 3)]) rfl sc_added.nd (pi_zip rfl T.z_zip (pa_cons (pv 0) (pa_cons (pv 1) pa_nil))) (blkOk_by (by kernel_rfl))
      (fun _ _ _ _ _ => pgtK (K := K) (n := 2) rfl rfl (pgs_cons (pg_name (i := 2) sc_added.nd rfl (Or.inl rfl)) (pgs_cons (pg_name (i := 3) sc_added.nd rfl (Or.inl rfl)) pgs_nil))) (fun _ _ _ _ _ => pts_nil) (fun _ _ _ _ _ => pe_op op_xor (pv 2) (pv 3)))), ?_⟩
    refine ⟨_, rfl, _, rfl, q, r, _, _, rfl, hq, hr', fun D hD => ?_⟩
    refine lc_val (J := Itz K q r) hD l.length (by rw [sizeLine_eq]; omega) (fun i => .int ((l.getD i 0 ^^^ m.getD i 0 : Nat) : Int))
      (fun i Hh hi t1 => ⟨_, _, _, _, t1.seq hq, t1.seq hr', vN_get hi, vN_get (by omega)⟩) (fun Hh t1 => ⟨_, _, t1.seq hq, t1.seq hr', .inl (by rw [vN_len]; exact Nat.le_refl _)⟩) ?_ ?_
    · rintro i Hh z H' hi t1 ⟨t, x1, y1, rfl, ht, rfl, hx, hy⟩ C hC
      obtain ⟨rfl, _⟩ := vN_get' (hx _ (t1.seq hq))
      obtain ⟨rfl, _⟩ := vN_get' (hy _ (t1.seq hr'))
      refine ⟨t, _, rfl, SqT.of upd_same, rfl, _, _, rfl, _, _, rfl, rfl, rfl, _, rfl, _, rfl, _, _, rfl, rfl, ?_⟩
      dsimp only
      rw [bitXor_nat]
      exact hC _ (same_new ht)
    · intro H2 s2 hx2
      refine k D H2 hD s2 (hx2.trans ?_)
      congr 2
      unfold vN Sound.added
      refine List.ext_getElem (by simp; omega) fun i h1 h2 => ?_
      simp at h1
      simp [List.getD_eq_getElem?_getD, List.getElem?_eq_getElem h1, List.getElem?_eq_getElem (show i < m.length by omega)]
def spFactor : Sp := fun vs H Q _ => ∃ i j : Nat, vs = [.int i, .int j] ∧ (i < 8 ∧ j < 4) ∧ ∀ H', Same H H' → Q (.int (Sound.factor i j : Nat)) H'
theorem sc_factor_of : FnScope ["i", "j"] ["i", "j"] (defScope s_factor_of) := ⟨rfl, rfl, rfl, by decide +kernel, rfl, by decide +kernel, by decide +kernel⟩
theorem ok_factor_of (T : Txt K mg A) : FnOk P w K mg base CX0 3 A.f_factor_of A.d_factor_of ["i", "j"] spFactor := by
  refine T.F_factor_of.ok sc_factor_of (fun vs H Q E h => ?_) (fun cdv Ar outer s H vs Q E hr h => ?_)
  · obtain ⟨i, j, rfl, _⟩ := h
    rfl
  · obtain ⟨i, j, rfl, ⟨hi, hj⟩, k⟩ := h
    refine ⟨_, pss_one (ps_ret (pe_call (ok_inverse T) hr rfl T.m_inverse T.F_inverse.kp T.b_inverse .nil pass0 (pa_cons (pe_op op_xor (pv 0) (pe_op op_add (pe_gi rfl T.g_FIRST_DIVISOR) (pv 1))) pa_nil))), ?_⟩
    refine ⟨_, rfl, _, rfl, _, _, rfl, rfl, _, _, rfl, rfl, i ^^^ (128 + j), ?_, factor_ok i hi j hj, k⟩
    show [V.int (Builtin.bitXor _ _)] = _
    rw [show (128 : Int) + (j : Nat) = ((128 + j : Nat) : Int) by omega, bitXor_nat]
def RowsN (K : PySem.W.Frag) (H : Hp) (r : Addr) (M : List (List Nat)) : Prop := ∃ as : List Addr, SqL K H r (as.map V.ref) ∧ as.length = M.length ∧ ∀ (k : Nat) (a : Addr), as[k]? = some a → SqL K H a (vN (M.getD k []))
theorem RowsN.same {H H' : Hp} {r : Addr} {M : List (List Nat)} (h : RowsN K H r M) (s : Same H H') : RowsN K H' r M := by
  obtain ⟨as, h1, h2, h3⟩ := h
  exact ⟨as, s.seq h1, h2, fun k a e => s.seq (h3 k a e)⟩
def lensN (M : List (List Nat)) : List Nat := M.map List.length
def longN (M : List (List Nat)) : Nat := (lensN M).foldl max 0 + 2
theorem foldl_max_le : ∀ (l : List Nat) (b : Nat), b ≤ l.foldl max b ∧ (∀ x ∈ l, x ≤ l.foldl max b) ∧ (l.foldl max b = b ∨ l.foldl max b ∈ l)
  | [], b => ⟨Nat.le_refl _, fun x hx => (by cases hx), .inl rfl⟩
  | y :: l, b => by
    obtain ⟨h1, h2, h3⟩ := foldl_max_le l (max b y)
    rw [List.foldl_cons]
    refine ⟨by omega, fun x hx => ?_, ?_⟩
    · rcases List.mem_cons.mp hx with rfl | hx
      · omega
      · exact h2 x hx
    · rcases h3 with h3 | h3
      · rw [h3]
        rcases Nat.le_total b y with q | q
        · exact .inr (by rw [Nat.max_eq_right q]; simp)
        · exact .inl (Nat.max_eq_left q)
      · exact .inr (List.mem_cons_of_mem _ h3)
theorem max_is {l : List Nat} {m : Nat} (h1 : m ∈ l) (h2 : ∀ x ∈ l, x ≤ m) : l.foldl max 0 = m := by
  obtain ⟨a, b, c⟩ := foldl_max_le l 0
  have := b m h1
  rcases c with c | c
  · omega
  · have := h2 _ c; omega
def spLong (K : PySem.W.Frag) : Sp := fun vs H Q _ => ∃ (r : Addr) (M : List (List Nat)), vs = [.ref r] ∧ RowsN K H r M ∧ (1 ≤ M.length ∧ M.length ≤ 100000) ∧ ∀ H', Same H H' → Q (.int (longN M : Nat)) H'
theorem sc_longest_row : FnScope ["frames", "one"] ["frames"] (defScope s_longest_row) := ⟨rfl, rfl, rfl, by decide +kernel, rfl, by decide +kernel, by decide +kernel⟩
theorem lens_get {M : List (List Nat)} {i : Nat} (h : i < M.length) : (lensN M).getD i 0 = (M.getD i []).length := by
  unfold lensN
  rw [List.getD_eq_getElem?_getD, List.getD_eq_getElem?_getD, List.getElem?_map, List.getElem?_eq_getElem h]; rfl
theorem ok_longest_row (T : Txt K mg A) : FnOk P w K mg base CX0 1 A.f_longest_row A.d_longest_row ["frames"] (spLong K) := by
  refine T.F_longest_row.ok sc_longest_row (fun vs H Q E h => ?_) (fun cdv Ar outer s H vs Q E hr h => ?_)
  · obtain ⟨r, M, rfl, _⟩ := h
    rfl
  · obtain ⟨r, M, rfl, ⟨as, hr', hlen, hrow⟩, ⟨hM1, hM2⟩, k⟩ := h
    refine ⟨_, pss_one (ps_ret (pe_op op_add (pe_callB (cr_max rfl) (by rfl) T.z_max (by decide +kernel : bootBuiltins "max" = some (.builtin "max")) (pa_cons (pe_lc (own := [("one", 1)]) rfl sc_longest_row.nd (pi_list (pv 0)) (blkOk_by (by kernel_rfl)) (fun _ _ _ _ _ => pg_name (i := 1) sc_longest_row.nd rfl (Or.inl rfl)) (fun _ _ _ _ _ => pts_nil)
      (fun _ _ _ _ _ => pe_callB (lenK (K := K) rfl) (by rfl) T.z_len PySem.boot_len (pa_cons (pv 1) pa_nil))) pa_nil)) (pe_gi rfl T.g_LENGTH_SIZE))), ?_⟩
    refine ⟨_, rfl, r, rfl, ⟨_, hr'⟩, fun D hD => ?_⟩
    refine lc_val (J := Itl K r) hD M.length (by rw [sizeLine_eq]; omega) (fun i => .int (((lensN M).getD i 0 : Nat) : Int)) (fun i Hh hi t1 => ?_) (fun Hh t1 => ⟨_, t1.seq hr', by rw [List.length_map]; omega⟩) ?_ ?_
    · obtain ⟨a, h1, _⟩ := ref_get (as := as) (i := i) (by omega)
      exact ⟨_, _, t1.seq hr', h1⟩
    · rintro i Hh z H' hi t1 ⟨rfl, hz⟩ C hC
      obtain ⟨a, rfl, ha⟩ := ref_get' (hz _ (t1.seq hr'))
      refine ⟨rfl, _, rfl, a, _, rfl, .inl (t1.seq (hrow i a ha)), ?_⟩
      rw [vN_len, ← lens_get hi]
      exact hC _ (Same.refl _)
    · intro H2 s2 hx2
      have e : (List.range M.length).map (fun i => V.int (((lensN M).getD i 0 : Nat) : Int)) = vN (lensN M) := by
        have := map_getD (f := id) (lensN M)
        rw [List.map_id] at this
        rw [← this]
        unfold lensN
        rw [List.length_map]; rfl
      rw [e] at hx2
      refine ⟨D, (lensN M).map fun (n : Nat) => (n : Int), rfl, (by rw [← vN_int]; exact SqL.of hx2), (by unfold lensN; rw [List.length_map, List.length_map]; exact hM1), fun m hm hall => ?_⟩
      obtain ⟨n, hn, rfl⟩ := List.mem_map.mp hm
      refine ⟨_, _, rfl, rfl, ?_⟩
      have : longN M = n + 2 := by
        unfold longN
        rw [max_is hn fun x hx => by have := hall _ (List.mem_map_of_mem hx); omega]
      have k2 := k H2 s2
      rw [this] at k2
      exact k2
def rowN (r : Nat) (m : List Nat) : List Nat := hiN 2 m.length ++ m ++ List.replicate (r - 2 - m.length) 0
def sumN (r j : Nat) (M : List (List Nat)) : List Nat := (M.zipIdx).foldl (fun a x => Sound.added a ((rowN r x.1).map (Sound.mul (Sound.factor x.2 j)))) (List.replicate r 0)
theorem rowN_len {r : Nat} {m : List Nat} (h : m.length + 2 ≤ r) : (rowN r m).length = r := by
  unfold rowN
  rw [List.length_append, List.length_append, hiN_len, List.length_replicate]; omega
theorem rowN_lt {r : Nat} {m : List Nat} (h : ∀ x ∈ m, x < 256) : ∀ x ∈ rowN r m, x < 256 := fun x hx => by
  unfold rowN at hx
  rcases List.mem_append.mp hx with hx | hx
  · rcases List.mem_append.mp hx with hx | hx
    · exact hiN_lt _ _ x hx
    · exact h x hx
  · rw [(List.mem_replicate.mp hx).2]; decide
theorem factor_lt {i j : Nat} (hi : i < 8) (hj : j < 4) : Sound.factor i j < 256 := by
  obtain ⟨h1, h2⟩ := factor_ok i hi j hj
  exact (inv_first h1 h2).1
theorem added_len {a b : List Nat} : (Sound.added a b).length = min a.length b.length := by unfold Sound.added; rw [List.length_zipWith]
theorem vN_zeros (n : Nat) : (List.replicate n [V.int 0]).flatten = vN (List.replicate n 0) := by
  unfold vN
  induction n with
  | zero => rfl
  | succ n ih => rw [List.replicate_succ, List.replicate_succ, List.flatten_cons, ih]; rfl
def spRowSum (K : PySem.W.Frag) : Sp := fun vs H Q _ => ∃ (j r : Nat) (f : Addr) (M : List (List Nat)), vs = [.int j, .int r, .ref f] ∧ RowsN K H f M ∧ (j < 4 ∧ r ≤ 10000 ∧ M.length ≤ 8) ∧ (∀ m ∈ M, m.length + 2 ≤ r ∧ ∀ x ∈ m, x < 256) ∧ NewN H Q (sumN r j M)
theorem sc_row_sum : FnScope ["j", "row_size", "frames", "total", "i", "one", "row"] ["j", "row_size", "frames"] (defScope s_row_sum) := ⟨rfl, rfl, rfl, by decide +kernel, rfl, by decide +kernel, by decide +kernel⟩
theorem sumN_take {r j i : Nat} {M : List (List Nat)} (hi : i < M.length) : ((M.zipIdx).take (i + 1)).foldl (fun a x => Sound.added a ((rowN r x.1).map (Sound.mul (Sound.factor x.2 j)))) (List.replicate r 0) = Sound.added (((M.zipIdx).take i).foldl (fun a x => Sound.added a ((rowN r x.1).map (Sound.mul (Sound.factor x.2 j)))) (List.replicate r 0)) ((rowN r (M.getD i [])).map (Sound.mul (Sound.factor i j))) := by
  rw [take_fold _ _ _ (by rw [List.length_zipIdx]; exact hi)]
  have e : M.zipIdx[i]'(by rw [List.length_zipIdx]; exact hi) = (M.getD i [], i) := by
    rw [List.getElem_zipIdx, List.getD_eq_getElem?_getD, List.getElem?_eq_getElem hi]; simp
  rw [e]
theorem getD_mem' {M : List (List Nat)} {i : Nat} (h : i < M.length) : M.getD i [] ∈ M := by
  rw [List.getD_eq_getElem?_getD, List.getElem?_eq_getElem h]; exact List.getElem_mem h
theorem ok_row_sum (T : Txt K mg A) : FnOk P w K mg base CX0 4 A.f_row_sum A.d_row_sum ["j", "row_size", "frames"] (spRowSum K) := by
  refine T.F_row_sum.ok sc_row_sum (fun vs H Q E h => ?_) (fun cdv Ar outer s H vs Q E hr h => ?_)
  · obtain ⟨j, r, f, M, rfl, _⟩ := h
    rfl
  · obtain ⟨j, r, f, M, rfl, hf, ⟨hj, hr1, hM⟩, hrows, k⟩ := h
    have hr1' : Room 1 _ := hr.mono (by decide)
    have hr2' : Room 2 _ := hr.mono (by decide)
    refine ⟨_, pss_cons (ps_set (i := 3) sc_row_sum.nd rfl (Or.inl rfl) (pe_op op_rep (pe_lst (pa_cons pe_int pa_nil)) (pv 1)))
      (pss_cons (ps_for PassesOwn.never rfl (pi_enum rfl T.z_enumerate (pa_cons (pv 2) pa_nil)) (pgtK (K := K) (n := 2) rfl rfl (pgs_cons (pg_name (i := 4) sc_row_sum.nd rfl (Or.inl rfl)) (pgs_cons (pg_name (i := 5) sc_row_sum.nd rfl (Or.inl rfl)) pgs_nil)))
        (pss_cons (ps_set (i := 6) sc_row_sum.nd rfl (Or.inl rfl) (pe_op op_cat (pe_op op_catS (pe_call (ok_to_octets T) hr1' rfl T.m_to_octets T.F_to_octets.kp T.b_to_octets .nil pass0 (pa_cons (pe_gi rfl T.g_LENGTH_SIZE) (pa_cons (pe_callB call_len_seq (by rfl) T.z_len PySem.boot_len (pa_cons (pv 5) pa_nil)) pa_nil))) (pv 5))
          (pe_op op_rep (pe_lst (pa_cons pe_int pa_nil)) (pe_op op_sub (pe_op op_sub (pv 1) (pe_gi rfl T.g_LENGTH_SIZE)) (pe_callB call_len_seq (by rfl) T.z_len PySem.boot_len (pa_cons (pv 5) pa_nil))))))
        (pss_one (ps_set (i := 3) sc_row_sum.nd rfl (Or.inl rfl) (pe_call (ok_added T) hr1' rfl T.m_added T.F_added.kp T.b_added .nil pass0 (pa_cons (pv 3) (pa_cons (pe_call (ok_scaled T) hr2' rfl T.m_scaled T.F_scaled.kp T.b_scaled .nil pass0 (pa_cons (pe_call (ok_factor_of T) hr rfl T.m_factor_of T.F_factor_of.kp T.b_factor_of .nil pass0 (pa_cons (pv 4) (pa_cons (pv 0) pa_nil))) (pa_cons (pv 6) pa_nil))) pa_nil)))))))
      (pss_one (ps_ret (pv 3)))), ?_⟩
    refine ⟨by rw [sizeLine_eq]; show 1 ≤ _; omega, fun p0 hp0 => ⟨_, rfl, p0, _, _, rfl, rfl, upd_same, by omega, by omega, (by rw [sizeLine_eq]; simp; omega), fun t0 ht0 => ?_⟩⟩
    have n0 : H t0 = none := (same_new hp0).none ht0
    have s0 : Same H (upd (upd H p0 (.lst [.int 0])) t0 (.lst (List.replicate ((r : Nat) : Int).toNat [V.int 0]).flatten)) := same_keep (same_new hp0) n0
    obtain ⟨as, hf1, hf2, hf3⟩ := id hf
    refine ⟨_, rfl, f, _, rfl, s0.seq hf1, ?_⟩
    rw [Int.toNat_natCast, vN_zeros] at s0 ⊢
    refine for_gen (J := Ite K f) M.length (fun i σ H' => ∃ (t : Addr) (v4 v5 v6 : Option V), H t = none ∧ Same H H' ∧ (((M.zipIdx).take i).foldl (fun a x => Sound.added a ((rowN r x.1).map (Sound.mul (Sound.factor x.2 j)))) (List.replicate r 0)).length = r ∧ H' t = some (.lst (vN (((M.zipIdx).take i).foldl (fun a x => Sound.added a ((rowN r x.1).map (Sound.mul (Sound.factor x.2 j)))) (List.replicate r 0)))) ∧ σ = [some (.int j), some (.int r), some (.ref f), some (.ref t), v4, v5, v6])
      ⟨t0, none, none, none, n0, s0, (by simp), upd_same, rfl⟩ ?_ ?_ ?_ ?_
    · rintro i σ H1 hi ⟨t, v4, v5, v6, ht, s1, hl, hx, rfl⟩
      obtain ⟨a, h1, _⟩ := ref_get (as := as) (i := i) (by omega)
      exact ⟨_, _, s1.seq hf1, h1⟩
    · rintro σ H1 ⟨t, v4, v5, v6, ht, s1, hl, hx, rfl⟩
      exact ⟨_, s1.seq hf1, by rw [List.length_map]; omega⟩
    · rintro i σ H1 x H1' hi ⟨t, v4, v5, v6, ht, s1, hl, hx, rfl⟩ ⟨T1, x1, rfl, hT1, rfl, hz⟩
      obtain ⟨a, rfl, ha⟩ := ref_get' (hz _ (s1.seq hf1))
      obtain ⟨hm1, hm2⟩ := hrows _ (getD_mem' hi)
      rw [sumN_take hi]
      generalize (((M.zipIdx).take i).foldl (fun a x => Sound.added a ((rowN r x.1).map (Sound.mul (Sound.factor x.2 j)))) (List.replicate r 0)) = acc at *
      generalize hm : M.getD i [] = m at *
      have sT := same_new (o := .tup [.int (i : Nat), .ref a]) hT1
      have hma : SqL K H a (vN m) := by rw [← hm]; exact hf3 i a ha
      have s1T := s1.trans sT
      refine ⟨T1, _, rfl, SqT.of upd_same, rfl, _, _, rfl, _, _, rfl, rfl, ?_⟩
      refine ⟨_, rfl, a, _, rfl, .inl (s1T.seq hma), 2, m.length, ?_, by decide, fun D1 H2 hD1 s2 hx2 => ?_⟩
      · rw [vN_len]; rfl
      have s12 := s1T.trans s2
      refine ⟨_, rfl, D1, a, _, _, rfl, rfl, SqL.of hx2, s12.seq hma, (by rw [vN_len, vN_len, hiN_len, sizeLine_eq]; omega), fun p1 hp1 => ?_⟩
      have s3 := same_new (o := .lst (vN (hiN 2 m.length) ++ vN m)) hp1
      have s13 := s12.trans s3
      refine ⟨by rw [sizeLine_eq]; show 1 ≤ _; omega, fun p2 hp2 => ?_⟩
      have s4 := same_new (o := .lst [V.int 0]) hp2
      have s14 := s13.trans s4
      refine ⟨_, rfl, _, _, rfl, rfl, _, rfl, a, _, rfl, .inl (s14.seq hma), _, _, rfl, rfl, p2, _, _, rfl, rfl, upd_same, by rw [vN_len]; omega, by rw [vN_len]; omega, (by rw [sizeLine_eq, vN_len]; simp; omega), fun p3 hp3 => ?_⟩
      have e1 : (((r : Nat) : Int) - 2 - ((vN m).length : Nat)).toNat = r - 2 - m.length := by rw [vN_len]; omega
      rw [e1, vN_zeros]
      have s5 := same_new (o := .lst (vN (List.replicate (r - 2 - m.length) 0))) hp3
      have s15 := s14.trans s5
      refine ⟨p1, p3, _, _, rfl, rfl, (s4.trans s5) _ _ upd_same, upd_same, (by rw [List.length_append, vN_len, vN_len, vN_len, hiN_len, List.length_replicate, sizeLine_eq]; omega), fun p4 hp4 => ?_⟩
      have e2 : vN (hiN 2 m.length) ++ vN m ++ vN (List.replicate (r - 2 - m.length) 0) = vN (rowN r m) := by unfold rowN; rw [vN_app, vN_app]
      rw [e2]
      have s6 := same_new (o := .lst (vN (rowN r m))) hp4
      have s16 := s15.trans s6
      refine ⟨_, rfl, _, rfl, _, rfl, i, j, rfl, ⟨by omega, hj⟩, fun H6 s7 => ?_⟩
      refine ⟨_, rfl, Sound.factor i j, p4, rowN r m, rfl, factor_lt (by omega) hj, SqL.of (s7 _ _ upd_same), rowN_lt hm2, (by rw [rowN_len hm1]; omega), fun D2 H7 hD2 s8 hx8 => ?_⟩
      have hxt : H7 t = some (.lst (vN acc)) := s8 _ _ (s7 _ _ (s6 _ _ (s5 _ _ (s4 _ _ (s3 _ _ (s2 _ _ (sT _ _ hx)))))))
      have s18 := s16.trans (s7.trans s8)
      refine ⟨t, D2, acc, _, rfl, SqL.of hxt, SqL.of hx8, (by rw [List.length_map, rowN_len hm1, hl]), by omega, fun D3 H8 hD3 s9 hx9 => ?_⟩
      exact ⟨D3, _, _, _, s18.none hD3, s18.trans s9, (by rw [added_len, List.length_map, rowN_len hm1, hl]; omega), hx9, rfl⟩
    · rintro σ H1 ⟨t, v4, v5, v6, ht, s1, hl, hx, rfl⟩
      refine ⟨_, rfl, k t H1 ht s1 ?_⟩
      rw [hx]
      unfold sumN
      rw [List.take_of_length_le (by rw [List.length_zipIdx]; exact Nat.le_refl _)]
theorem sum_len {r j : Nat} : ∀ (L : List (List Nat × Nat)) (a : List Nat), a.length = r → (∀ x ∈ L, x.1.length + 2 ≤ r) → (L.foldl (fun a x => Sound.added a ((rowN r x.1).map (Sound.mul (Sound.factor x.2 j)))) a).length = r
  | [], a, h, _ => h
  | x :: L, a, h, hx => sum_len L _ (by rw [added_len, List.length_map, rowN_len (hx x (List.mem_cons_self ..)), h]; omega) fun y hy => hx y (List.mem_cons_of_mem _ hy)
theorem sumN_len {r j : Nat} {M : List (List Nat)} (h : ∀ m ∈ M, m.length + 2 ≤ r) : (sumN r j M).length = r :=
  sum_len _ _ (by simp) fun x hx => h _ (List.fst_mem_of_mem_zipIdx hx)
theorem added_lt {a b : List Nat} (ha : ∀ x ∈ a, x < 256) (hb : ∀ x ∈ b, x < 256) : ∀ x ∈ Sound.added a b, x < 256 := fun x hx => by
  unfold Sound.added at hx
  obtain ⟨i, hi, rfl⟩ := List.getElem_of_mem hx
  rw [List.length_zipWith] at hi
  rw [List.getElem_zipWith]
  exact Nat.xor_lt_two_pow (n := 8) (ha _ (List.getElem_mem (by omega))) (hb _ (List.getElem_mem (by omega)))
theorem sum_lt {r j : Nat} (hj : j < 4) : ∀ (L : List (List Nat × Nat)) (a : List Nat), (∀ x ∈ a, x < 256) → (∀ x ∈ L, x.2 < 8) → ∀ x ∈ L.foldl (fun a x => Sound.added a ((rowN r x.1).map (Sound.mul (Sound.factor x.2 j)))) a, x < 256
  | [], a, h, _ => h
  | y :: L, a, h, hx => sum_lt hj L _ (added_lt h fun z hz => by
      obtain ⟨c, _, rfl⟩ := List.mem_map.mp hz
      exact mul_lt (factor_lt (hx y (List.mem_cons_self ..)) hj) c) fun z hz => hx z (List.mem_cons_of_mem _ hz)
theorem sumN_lt {r j : Nat} {M : List (List Nat)} (hj : j < 4) (hM : M.length ≤ 8) : ∀ x ∈ sumN r j M, x < 256 :=
  sum_lt hj _ _ (fun x hx => by rw [(List.mem_replicate.mp hx).2]; decide) fun x hx => by have := List.snd_lt_of_mem_zipIdx hx; omega
theorem long_ge {M : List (List Nat)} {m : List Nat} (h : m ∈ M) : m.length + 2 ≤ longN M := by
  have := (foldl_max_le (lensN M) 0).2.1 m.length (List.mem_map_of_mem h)
  unfold longN; omega
theorem long_le {M : List (List Nat)} {b : Nat} (h : ∀ m ∈ M, m.length ≤ b) : longN M ≤ b + 2 := by
  rcases (foldl_max_le (lensN M) 0).2.2 with q | q
  · unfold longN; omega
  · obtain ⟨m, hm, e⟩ := List.mem_map.mp q
    have := h m hm
    unfold longN; omega
def fsN (fs : List Sound.Bytes) : List (List Nat) := fs.map bn
theorem fsN_get (fs : List Sound.Bytes) (k : Nat) : (fsN fs).getD k [] = bn (fs.getD k []) := by
  unfold fsN
  rw [List.getD_eq_getElem?_getD, List.getD_eq_getElem?_getD, List.getElem?_map]
  cases fs[k]? <;> rfl
theorem rows_step (lost : Bool) (k : Nat) (b : Sound.Bytes) (h : b ≠ []) : Sound.rowsIn lost (k + 1) b = if b.length < 2 + Sound.fromHigh (b.take 2) ∨ (Sound.mayLong (Sound.fromHigh (b.take 2)) || (lost && Sound.fromHigh (b.take 2) == 0)) = false then none
    else (Sound.rowsIn lost k (b.drop (2 + Sound.fromHigh (b.take 2)))).map fun (l : List Sound.Bytes) => (b.drop 2).take (Sound.fromHigh (b.take 2)) :: l := by
  conv => lhs; unfold Sound.rowsIn
  rw [if_neg (by simpa using h)]
def leastOf' (lost : Bool) : Nat := if lost = true then 0 else 1
theorem may_iff (lost : Bool) (n : Nat) : (Sound.mayLong n || (lost && n == 0)) = true ↔ leastOf' lost ≤ n ∧ n ≤ 4096 := by
  unfold Sound.mayLong leastOf' Sound.LONGEST
  cases lost <;> simp <;> omega
def RowsC (H : Hp) (r : Addr) (M : List (List Nat)) : Prop := ∃ as : List Addr, H r = some (.lst (as.map V.ref)) ∧ as.length = M.length ∧ ∀ (k : Nat) (a : Addr), as[k]? = some a → H a = some (.lst (vN (M.getD k [])))
theorem RowsC.n {H : Hp} {r : Addr} {M : List (List Nat)} (h : RowsC H r M) : RowsN K H r M := by
  obtain ⟨as, h1, h2, h3⟩ := h
  exact ⟨as, SqL.of h1, h2, fun k a e => SqL.of (h3 k a e)⟩
theorem RowsC.same {H H' : Hp} {r : Addr} {M : List (List Nat)} (h : RowsC H r M) (s : Same H H') : RowsC H' r M := by
  obtain ⟨as, h1, h2, h3⟩ := h
  exact ⟨as, s _ _ h1, h2, fun k a e => s _ _ (h3 k a e)⟩
def rowsOut (K : PySem.W.Frag) (C : Addr) (B : Sound.Bytes) (lost : Bool) (H : Hp) (Q : VK) (E : XK) : Prop := match Sound.rowsIn lost (B.length + 1) B with
  | none => ∀ H', Same H H' → E (.ref C) none H'
  | some fs => if fs.isEmpty = true ∨ 8 < fs.length then ∀ H', Same H H' → E (.ref C) none H' else ∀ D H', H D = none → Same H H' → RowsC H' D (fsN fs) → Q (.ref D) H'
def spRows (K : PySem.W.Frag) (C : Addr) : Sp := fun vs H Q E => ∃ (q : Addr) (B : Sound.Bytes) (lost : Bool), vs = [.ref q, .int (leastOf' lost : Nat)] ∧ SqL K H q (vN (bn B)) ∧ B.length ≤ 16384 ∧ rowsOut K C B lost H Q E
theorem sc_read_rows : FnScope ["rows", "least", "frames", "place", "begin", "size"] ["rows", "least"] (defScope s_read_rows) := ⟨rfl, rfl, rfl, by decide +kernel, rfl, by decide +kernel, by decide +kernel⟩
theorem from2 (B : Sound.Bytes) (n : Nat) : fromN (bn (B.take n)) = Sound.fromHigh (B.take n) := (from_eq _).symm
theorem drop_all {α : Type} {l : List α} {n : Nat} (h : l.length ≤ n) : l.drop n = [] := List.drop_eq_nil_of_le h
theorem ok_read_rows (T : Txt K mg A) : FnOk P w K mg base (CX1 P w) 2 A.f_read_rows A.d_read_rows ["rows", "least"] (spRows K A.c_Unfit) := by
  refine T.F_read_rows.okE sc_read_rows (fun vs H Q E h => ?_) (fun cdv Ar outer s H vs Q E hr h => ?_)
  · obtain ⟨q, B, lost, rfl, _⟩ := h
    rfl
  · obtain ⟨q, B, lost, rfl, hq, hB, k⟩ := h
    refine ⟨_, pss_cons (ps_set (i := 2) sc_read_rows.nd rfl (Or.inl rfl) (pe_lst pa_nil))
      (pss_cons (ps_set (i := 3) sc_read_rows.nd rfl (Or.inl rfl) pe_int)
      (pss_cons (ps_while PassesOwn.leaving (pt_cmpR op_lt (pv 3) (pe_callB call_len_seq (by rfl) T.z_len PySem.boot_len (pa_cons (pv 0) pa_nil)) (nomark _))
        (pss_cons (ps_set (i := 4) sc_read_rows.nd rfl (Or.inl rfl) (pe_op op_add (pv 3) (pe_gi rfl T.g_LENGTH_SIZE)))
        (pss_cons (ps_set (i := 5) sc_read_rows.nd rfl (Or.inl rfl) (pe_call (ok_from_octets T) hr rfl T.m_from_octets T.F_from_octets.kp T.b_from_octets .nil pass0 (pa_cons (pe_slice sl_list (pv 0) (po_some (pv 3)) (po_some (pv 4))) pa_nil)))
        (pss_cons (ps_set (i := 3) sc_read_rows.nd rfl (Or.inl rfl) (pe_op op_add (pv 4) (pv 5)))
        (pss_cons (ps_if (PW.pt (pw_or (pt_not (pt_chain op_le op_le (pv 1) (pv 5) (pe_gi rfl T.g_LONGEST))) (pw_or1 (pt_cmpR op_gt (pv 3) (pe_callB call_len_seq (by rfl) T.z_len PySem.boot_len (pa_cons (pv 0) pa_nil)) (nomark _))))) (pss_one (ps_raise rfl rfl T.m_Unfit T.x_Unfit.exc raise1)) pss_nil)
        (pss_one (ps_expr (pe_bm PySem.F.plainAttrs_list PySem.F.slot_list_append PySem.F.type_list_append mt_append (pv 2) (pa_cons (pe_slice sl_list (pv 0) (po_some (pv 4)) (po_some (pv 3))) pa_nil)))))))))
      (pss_cons (ps_if (pt_not (pt_chain op_le op_le pe_int (pe_callB call_len_seq (by rfl) T.z_len PySem.boot_len (pa_cons (pv 2) pa_nil)) (pe_gi rfl T.g_MOST_FRAMES))) (pss_one (ps_raise rfl rfl T.m_Unfit T.x_Unfit.exc raise1)) pss_nil)
      (pss_one (ps_ret (pv 2)))))), ?_⟩
    refine ⟨by rw [sizeLine_eq]; show 0 ≤ _; omega, fun F hF => ?_⟩
    refine while_by (fun σ H' => ∃ (pl fuel : Nat) (fs : List Sound.Bytes) (as : List Addr) (v4 v5 : Option V), σ = [some (.ref q), some (.int (leastOf' lost : Nat)), some (.ref F), some (.int pl), v4, v5] ∧ pl ≤ B.length ∧ B.length - pl < fuel ∧ Sound.rowsIn lost (B.length + 1) B = (Sound.rowsIn lost fuel (B.drop pl)).map (fs ++ ·) ∧
      Same H H' ∧ H' F = some (.lst (as.map V.ref)) ∧ as.length = fs.length ∧ fs.length ≤ pl ∧ ∀ (k : Nat) (a : Addr), as[k]? = some a → a ≠ F ∧ H' a = some (.lst (vN (bn (fs.getD k []))))) (muAt 3 B.length)
      ⟨0, B.length + 1, [], [], none, none, rfl, Nat.zero_le _, by omega, (by rw [List.drop_zero]; simp), same_new hF, upd_same, rfl, Nat.le_refl _, fun k a e => by simp at e⟩ ?_ (fun σ H' Q Q' hQ ⟨v, h1, v0, h2, p, ys, e, hs, i, j, e1, e2, k, e3, z⟩ => ⟨v, h1, v0, h2, p, ys, e, hs, i, j, e1, e2, k, e3, hQ _ _ z⟩)
    rintro σ H1 ⟨pl, fuel, fs, as, v4, v5, rfl, hpl, hfu, heq, s1, hFx, hlen, hfp, has⟩
    refine ⟨_, rfl, _, rfl, q, _, rfl, .inl (s1.seq hq), _, _, rfl, rfl, _, rfl, ?_⟩
    have hnF : H F = none := hF
    unfold rowsOut at k
    refine ite2 (fun hc => ?_) fun hc => ?_
    · have hc : ((pl : Nat) : Int) < ((vN (bn B)).length : Nat) := of_decide_eq_true hc
      rw [vN_len, bn_len] at hc
      have hne : B.drop pl ≠ [] := fun z => by
        have := congrArg List.length z
        rw [List.length_drop] at this; simp at this; omega
      obtain ⟨fuel, rfl⟩ : ∃ m, fuel = m + 1 := ⟨fuel - 1, by omega⟩
      rw [rows_step lost fuel _ hne] at heq
      refine ⟨_, rfl, _, _, rfl, rfl, ?_⟩
      dsimp only
      rw [show ((pl : Nat) : Int) + 2 = ((pl + 2 : Nat) : Int) by omega]
      refine ⟨_, rfl, _, rfl, _, rfl, _, rfl, _, rfl, q, _, rfl, s1.seq hq, fun p1 hp1 => ?_⟩
      rw [vN_cut, show pl + 2 - pl = 2 by omega, bn_drop, bn_take]
      refine ⟨p1, bn ((B.drop pl).take 2), rfl, SqL.of upd_same, (by rw [bn_len, List.length_take]; omega), bn_lt _, ?_⟩
      rw [from2]
      have s2 := s1.trans (same_new (o := .lst (vN (bn ((B.drop pl).take 2)))) hp1)
      have hFx2 : upd H1 p1 (.lst (vN (bn ((B.drop pl).take 2)))) F = some (.lst (as.map V.ref)) := same_new hp1 _ _ hFx
      have has2 : ∀ (k : Nat) (a : Addr), as[k]? = some a → a ≠ F ∧ upd H1 p1 (.lst (vN (bn ((B.drop pl).take 2)))) a = some (.lst (vN (bn (fs.getD k [])))) := fun k a e => ⟨(has k a e).1, same_new hp1 _ _ (has k a e).2⟩
      generalize upd H1 p1 (.lst (vN (bn ((B.drop pl).take 2)))) = H2 at *
      generalize hn : Sound.fromHigh ((B.drop pl).take 2) = n at *
      refine ⟨_, rfl, _, rfl, _, _, rfl, rfl, ?_⟩
      dsimp only
      rw [show ((pl + 2 : Nat) : Int) + ((n : Nat) : Int) = ((pl + 2 + n : Nat) : Int) by omega]
      have bad : (B.length < pl + 2 + n ∨ ¬ (leastOf' lost ≤ n ∧ n ≤ 4096)) → E (.ref A.c_Unfit) none H2 := fun hb => by
        rw [if_pos (by
          rw [List.length_drop]
          rcases hb with hb | hb
          · exact .inl (by omega)
          · refine .inr ?_
            rw [← Bool.not_eq_true]
            exact fun z => hb ((may_iff lost n).mp z))] at heq
        rw [Option.map_none] at heq
        rw [heq] at k
        exact k H2 s2
      have good : B.length ≥ pl + 2 + n → leastOf' lost ≤ n → n ≤ 4096 → ∀ p, H2 p = none → (∃ (pl' fuel' : Nat) (fs' : List Sound.Bytes) (as' : List Addr) (v4' v5' : Option V), [some (V.ref q), some (V.int (leastOf' lost : Nat)), some (V.ref F), some (V.int ((pl + 2 + n : Nat) : Int)), some (V.int ((pl + 2 : Nat) : Int)), some (V.int (n : Nat))] = [some (.ref q), some (.int (leastOf' lost : Nat)), some (.ref F), some (.int pl'), v4', v5'] ∧ pl' ≤ B.length ∧ B.length - pl' < fuel' ∧ Sound.rowsIn lost (B.length + 1) B = (Sound.rowsIn lost fuel' (B.drop pl')).map (fs' ++ ·) ∧
          Same H (upd (upd H2 p (.lst (cutV (vN (bn B)) (some ((pl + 2 : Nat) : Int)) (some ((pl + 2 + n : Nat) : Int))))) F (.lst (as.map V.ref ++ [V.ref p]))) ∧ upd (upd H2 p (.lst (cutV (vN (bn B)) (some ((pl + 2 : Nat) : Int)) (some ((pl + 2 + n : Nat) : Int))))) F (.lst (as.map V.ref ++ [V.ref p])) F = some (.lst (as'.map V.ref)) ∧ as'.length = fs'.length ∧ fs'.length ≤ pl' ∧
          ∀ (k : Nat) (a : Addr), as'[k]? = some a → a ≠ F ∧ upd (upd H2 p (.lst (cutV (vN (bn B)) (some ((pl + 2 : Nat) : Int)) (some ((pl + 2 + n : Nat) : Int))))) F (.lst (as.map V.ref ++ [V.ref p])) a = some (.lst (vN (bn (fs'.getD k []))))) ∧
          muAt 3 B.length [some (V.ref q), some (V.int (leastOf' lost : Nat)), some (V.ref F), some (V.int ((pl + 2 + n : Nat) : Int)), some (V.int ((pl + 2 : Nat) : Int)), some (V.int (n : Nat))] (upd (upd H2 p (.lst (cutV (vN (bn B)) (some ((pl + 2 : Nat) : Int)) (some ((pl + 2 + n : Nat) : Int))))) F (.lst (as.map V.ref ++ [V.ref p]))) < muAt 3 B.length [some (V.ref q), some (V.int (leastOf' lost : Nat)), some (V.ref F), some (V.int (pl : Nat)), v4, v5] H1 := fun g1 g2 g3 p hp => by
        have hpF : p ≠ F := fun z => by rw [z, hFx2] at hp; cases hp
        rw [if_neg (by
          rw [List.length_drop]
          rintro (z | z)
          · omega
          · have := (may_iff lost n).mpr ⟨g2, g3⟩
            rw [z] at this; cases this)] at heq
        refine ⟨⟨pl + 2 + n, fuel, fs ++ [((B.drop pl).drop 2).take n], as ++ [p], _, _, rfl, by omega, by omega, ?_, ?_, ?_, ?_, ?_, ?_⟩, ?_⟩
        · rw [heq]
          simp only [List.drop_drop, Option.map_map]
          rw [show pl + (2 + n) = pl + 2 + n by omega]
          congr 1
          funext l
          simp
        · exact same_keep (same_keep s2 (s2.none hp)) hnF
        · rw [upd_same]; simp
        · simp [hlen]
        · simp; omega
        · intro k a e
          by_cases hk : k < as.length
          · rw [List.getElem?_append_left hk] at e
            obtain ⟨z1, z2⟩ := has2 k a e
            refine ⟨z1, ?_⟩
            rw [upd_ne z1, upd_ne (ne_of_none z2 hp), z2, List.getD_eq_getElem?_getD, List.getD_eq_getElem?_getD, List.getElem?_append_left (by omega)]
          · rw [List.getElem?_append_right (by omega)] at e
            have hk0 : k - as.length = 0 := by
              have := (List.getElem?_eq_some_iff.mp e).1
              simp at this; omega
            rw [hk0] at e
            obtain rfl : p = a := Option.some.inj e
            refine ⟨hpF, ?_⟩
            rw [upd_ne hpF, upd_same, vN_cut, show pl + 2 + n - (pl + 2) = n by omega, bn_drop, bn_take, List.getD_eq_getElem?_getD, List.getElem?_append_right (by omega), show k - fs.length = 0 by omega, List.drop_drop]
            rfl
        · show B.length - ((pl + 2 + n : Nat) : Int).toNat < B.length - ((pl : Nat) : Int).toNat
          omega
      refine ⟨_, rfl, _, rfl, _, _, rfl, rfl, _, rfl, ?_⟩
      by_cases c1 : ((leastOf' lost : Nat) : Int) ≤ ((n : Nat) : Int)
      · rw [decide_eq_true c1]
        refine iteT ⟨_, _, rfl, rfl, _, rfl, ?_⟩
        by_cases c2 : ((n : Nat) : Int) ≤ 4096
        · rw [decide_eq_true c2]
          refine iteF ⟨_, rfl, _, rfl, q, _, rfl, .inl (s2.seq hq), _, _, rfl, rfl, _, rfl, ?_⟩
          rw [vN_len, bn_len]
          refine ite2 (fun c3 => ?_) fun c3 => ?_
          · have c3 : ((B.length : Nat) : Int) < ((pl + 2 + n : Nat) : Int) := of_decide_eq_true c3
            exact bad (.inl (by omega))
          · have c3 : ¬ ((B.length : Nat) : Int) < ((pl + 2 + n : Nat) : Int) := fun z => c3 (decide_eq_true z)
            refine ⟨_, rfl, .inl ⟨rfl, _, SqL.of hFx2⟩, _, rfl, _, rfl, _, rfl, _, rfl, _, rfl, q, _, rfl, s2.seq hq, fun p hp => ?_⟩
            refine ⟨F, _, _, rfl, rfl, (by rw [upd_ne (ne_of_none hFx2 hp)]; exact hFx2), (by rw [List.length_map, sizeLine_eq]; omega), good (by omega) (by omega) (by omega) p hp⟩
        · rw [decide_eq_false c2]
          exact iteT (iteT (bad (.inr (by omega))))
      · rw [decide_eq_false c1]
        exact iteF ⟨_, rfl, iteT (iteT (bad (.inr (by omega))))⟩
    · have hc : ¬ ((pl : Nat) : Int) < ((vN (bn B)).length : Nat) := fun z => hc (decide_eq_true z)
      rw [vN_len, bn_len] at hc
      have hdr : B.drop pl = [] := drop_all (by omega)
      obtain ⟨fuel, rfl⟩ : ∃ m, fuel = m + 1 := ⟨fuel - 1, by omega⟩
      have h0 : Sound.rowsIn lost (fuel + 1) [] = some [] := by unfold Sound.rowsIn; rfl
      rw [hdr, h0, Option.map_some, List.append_nil] at heq
      rw [heq] at k
      have hl : ((as.map V.ref).length : Nat) = fs.length := by rw [List.length_map, hlen]
      have bad : ¬ (1 ≤ fs.length ∧ fs.length ≤ 8) → E (.ref A.c_Unfit) none H1 := fun hb => by
        dsimp only at k
        rw [if_pos (by
          by_cases z : fs = []
          · exact .inl (by rw [z]; rfl)
          · have := List.length_pos_iff.mpr z
            exact .inr (by omega))] at k
        exact k H1 s1
      refine ⟨_, rfl, F, _, rfl, .inl (SqL.of hFx), _, _, rfl, rfl, _, rfl, ?_⟩
      rw [hl]
      by_cases c1 : (1 : Int) ≤ ((fs.length : Nat) : Int)
      · rw [decide_eq_true c1]
        refine iteT ⟨_, _, rfl, rfl, _, rfl, ?_⟩
        by_cases c2 : ((fs.length : Nat) : Int) ≤ 8
        · rw [decide_eq_true c2]
          refine iteF ⟨_, rfl, ?_⟩
          dsimp only at k
          rw [if_neg (by
            rintro (z | z)
            · rw [List.isEmpty_iff] at z
              rw [z] at c1; simp at c1
            · omega)] at k
          refine k F H1 hnF s1 ⟨as, hFx, by unfold fsN; rw [List.length_map, hlen], fun k a e => ?_⟩
          rw [fsN_get]
          exact (has k a e).2
        · rw [decide_eq_false c2]
          exact iteT (bad (by omega))
      · rw [decide_eq_false c1]
        exact iteF ⟨_, rfl, iteT (bad (by omega))⟩
def spCounted (K : PySem.W.Frag) : Sp := fun vs H Q _ => ∃ (q : Addr) (xs : List V), vs = [.ref q] ∧ SqL K H q xs ∧ xs.length ≤ 1000000 ∧ ∀ D H', H D = none → Same H H' → H' D = some (.lst (.int (xs.length : Nat) :: xs)) → Q (.ref D) H'
theorem sc_counted : FnScope ["data"] ["data"] (defScope s_counted) := ⟨rfl, rfl, rfl, by decide +kernel, rfl, by decide +kernel, by decide +kernel⟩
theorem ok_counted (T : Txt K mg A) : FnOk P w K mg base CX0 1 A.f_counted A.d_counted ["data"] (spCounted K) := by
  refine T.F_counted.ok sc_counted (fun vs H Q E h => ?_) (fun cdv Ar outer s H vs Q E hr h => ?_)
  · obtain ⟨q, l, rfl, _⟩ := h
    rfl
  · obtain ⟨q, l, rfl, hq, hl, k⟩ := h
    refine ⟨_, pss_one (ps_ret (pe_op op_catS (pe_lst (pa_cons (pe_callB call_len_seq (by rfl) T.z_len PySem.boot_len (pa_cons (pv 0) pa_nil)) pa_nil)) (pv 0))), ?_⟩
    refine ⟨_, rfl, q, _, rfl, .inl hq, by rw [sizeLine_eq]; show 1 ≤ _; omega, fun p hp => ?_⟩
    refine ⟨_, rfl, p, q, _, _, rfl, rfl, SqL.of upd_same, (same_new hp).seq hq, (by rw [sizeLine_eq]; show 1 + _ ≤ _; omega), fun p2 hp2 => ?_⟩
    have n2 : H p2 = none := (same_new hp).none hp2
    exact k p2 _ n2 (same_keep (same_new hp) n2) upd_same
theorem toBytes_bn {l : List Nat} (h : ∀ x ∈ l, x < 256) : bn (Sound.toBytes l) = l := by
  unfold bn Sound.toBytes
  rw [List.map_map]
  conv => rhs; rw [← List.map_id l]
  refine List.map_congr_left fun x hx => ?_
  have := h x hx
  simp [UInt8.toNat_ofNat', Nat.mod_eq_of_lt this]
theorem bn_high (c n : Nat) : bn (Sound.high c n) = hiN c n := high_eq c n
theorem rowIn_eq {r : Nat} {b : Sound.Bytes} (h : b.length + 2 ≤ r) : Sound.rowIn r b = rowN r (bn b) := by
  unfold Sound.rowIn rowN
  have e : (Sound.rowOf b).map UInt8.toNat = hiN 2 (bn b).length ++ bn b := by
    unfold Sound.rowOf
    rw [bn_len, ← bn_high, ← bn_app]; rfl
  simp only [e]
  rw [List.length_append, hiN_len, bn_len, show r - (2 + b.length) = r - 2 - b.length by omega, List.take_of_length_le]
  rw [List.length_append, List.length_append, hiN_len, bn_len, List.length_replicate]; omega
theorem sumRows_eq {r j : Nat} {fs : List Sound.Bytes} (h : ∀ b ∈ fs, b.length + 2 ≤ r) : Sound.sumRows r j (Sound.numbered fs) = sumN r j (fsN fs) := by
  unfold Sound.sumRows Sound.numbered sumN fsN
  rw [List.foldl_map, List.zipIdx_map, List.foldl_map]
  have key : ∀ (L : List (Sound.Bytes × Nat)) (a : List Nat), (∀ x ∈ L, x.1.length + 2 ≤ r) → L.foldl (fun a x => Sound.added a (Sound.scaled (Sound.factor x.2 j) (Sound.rowIn r x.1))) a = L.foldl (fun a x => Sound.added a ((rowN r (Prod.map bn id x).1).map (Sound.mul (Sound.factor (Prod.map bn id x).2 j)))) a := by
    intro L
    induction L with
    | nil => intro a _; rfl
    | cons x L ih =>
      intro a hx
      rw [List.foldl_cons, List.foldl_cons, ih _ fun y hy => hx y (List.mem_cons_of_mem _ hy), rowIn_eq (hx x (List.mem_cons_self ..))]
      rfl
  exact key _ _ fun x hx => h _ (List.fst_mem_of_mem_zipIdx hx)
theorem same_made {H : Hp} {x dx : Addr} {o u : HO} (hx : H x = none) (hd : H dx = none) : Same H (upd (upd H dx o) x u) := fun b v e => by
  rw [upd_ne (ne_of_none e hx), upd_ne (ne_of_none e hd)]; exact e
theorem upd_made {H : Hp} {x dx : Addr} {o u v : HO} : upd (upd (upd H dx o) x u) x v = upd (upd H dx o) x v := upd_upd
def pcf (g j r s : V) : List (Str × V) := [("g", g), ("j", j), ("row", r), ("size", s)]
def IsPc (K : PySem.W.Frag) (C : Addr) (H : Hp) (x : Addr) (p : Sound.Piece) : Prop := ∃ dx q, H x = some (.ins C dx (pcf (.int p.g) (.int p.j) (.ref q) (.int (11 + p.row.length : Nat)))) ∧ H q = some (.lst (vN (bn p.row)))
theorem IsPc.same {C : Addr} {H H' : Hp} {x : Addr} {p : Sound.Piece} (h : IsPc K C H x p) (s : Same H H') : IsPc K C H' x p := by
  obtain ⟨dx, q, h1, h2⟩ := h
  exact ⟨dx, q, s _ _ h1, s _ _ h2⟩
def spPcI (K : PySem.W.Frag) (C : Addr) : Sp := fun vs H Q _ => ∃ (p dx q : Addr) (g j : V) (xs : List V), vs = [.ref p, g, j, .ref q] ∧ H p = some (.ins C dx []) ∧ SqL K H q xs ∧ Q .non (upd H p (.ins C dx (pcf g j (.ref q) (.int (11 + xs.length : Nat)))))
theorem sc_Piece_init : FnScope ["self", "g", "j", "row"] ["self", "g", "j", "row"] (defScope s_Piece_init) := ⟨rfl, rfl, rfl, by decide +kernel, rfl, by decide +kernel, by decide +kernel⟩
theorem ok_Piece_init (T : Txt K mg A) : FnOk P w K mg base CX0 1 A.f_Piece_init A.d_Piece_init ["self", "g", "j", "row"] (spPcI K A.c_Piece) := by
  refine T.F_Piece_init.ok sc_Piece_init (fun vs H Q E h => ?_) (fun cdv Ar outer s H vs Q E hr h => ?_)
  · obtain ⟨p, dx, q, g, j, xs, rfl, _⟩ := h
    rfl
  · obtain ⟨p, dx, q, g, j, xs, rfl, hp, hq, k⟩ := h
    refine ⟨_, pss_cons (ps_fld (pv 0) (pv 1) rfl) (pss_cons (ps_fld (pv 0) (pv 2) rfl) (pss_cons (ps_fld (pv 0) (pv 3) rfl)
      (pss_one (ps_fld (pv 0) (pe_op op_add (pe_op op_add (pe_gi rfl T.g_FRONT_SIZE) (pe_callB call_len_seq (by rfl) T.z_len PySem.boot_len (pa_cons (pv 3) pa_nil))) (pe_gi rfl T.g_CRC32_SIZE)) rfl)))), ?_⟩
    have sq : ∀ fs, SqL K (upd H p (.ins A.c_Piece dx fs)) q xs := fun fs => by
      rcases hq with (h | ⟨ob, h⟩) | h
      · exact .inl (.inl (by rw [upd_ne (ne_of h hp (by intro e; cases e))]; exact h))
      · exact .inl (.inr ⟨ob, by rw [upd_ne (ne_of h hp (by intro e; cases e))]; exact h⟩)
      · exact .inr h
    refine ⟨_, rfl, _, rfl, p, A.c_Piece, dx, [], rfl, hp, T.l_Piece, T.n_Piece_g, (by show 0 < 1000; decide), ?_⟩
    refine ⟨_, rfl, _, rfl, p, A.c_Piece, dx, _, rfl, upd_same, T.l_Piece, T.n_Piece_j, (by show 1 < 1000; decide), ?_⟩
    rw [upd_upd]
    refine ⟨_, rfl, _, rfl, p, A.c_Piece, dx, _, rfl, upd_same, T.l_Piece, T.n_Piece_row, (by show 2 < 1000; decide), ?_⟩
    rw [upd_upd]
    refine ⟨_, rfl, q, xs, rfl, .inl (sq _), _, _, rfl, rfl, _, _, rfl, rfl, _, rfl, p, A.c_Piece, dx, _, rfl, upd_same, T.l_Piece, T.n_Piece_size, (by show 3 < 1000; decide), ?_⟩
    rw [upd_upd]
    have e : (7 : Int) + ((xs.length : Nat) : Int) + 4 = ((11 + xs.length : Nat) : Int) := by omega
    rw [← e] at k
    exact k
def pieceAt (b : Sound.Bytes) : Option Sound.Piece :=
  let r := Sound.fromHigh ((b.drop 5).take 2)
  if Sound.fromHigh (b.take 2) ≠ 19280 ∨ ¬ (3 ≤ r ∧ r ≤ 4098) ∨ b.length < 11 + r ∨ Sound.fromHigh ((b.drop (7 + r)).take 4) ≠ Sound.crc32 (b.take (7 + r)) then none
  else some ⟨Sound.fromHigh ((b.drop 2).take 2), Sound.fromHigh ((b.drop 4).take 1), (b.drop 7).take r⟩
theorem mark_iff (b : Sound.Bytes) : Sound.fromHigh (b.take 2) = 19280 ↔ b.take 2 = Sound.high 2 0x4B50 := by
  have hl : (b.take 2).length ≤ 2 := by rw [List.length_take]; omega
  generalize b.take 2 = l at *
  constructor
  · intro h
    rw [from_eq] at h
    match l, hl, h with
    | [], _, h => exact absurd h (by decide)
    | [x], _, h =>
      have h : 256 * 0 + x.toNat = 19280 := h
      have := x.toNat_lt
      omega
    | [x, y], _, h =>
      have h : 256 * (256 * 0 + x.toNat) + y.toNat = 19280 := h
      have := x.toNat_lt
      have := y.toNat_lt
      have h1 : x.toNat = 75 := by omega
      have h2 : y.toNat = 80 := by omega
      have e1 : x = 75 := UInt8.toNat_inj.mp (by rw [h1]; rfl)
      have e2 : y = 80 := UInt8.toNat_inj.mp (by rw [h2]; rfl)
      rw [e1, e2]; decide
    | _ :: _ :: _ :: _, hl, _ => simp at hl
  · rintro rfl
    decide
theorem pieceAt_take (b : Sound.Bytes) : pieceAt b = match Sound.takePiece b with
    | none => none
    | some (p, _) => if 3 ≤ p.row.length ∧ p.row.length ≤ 4098 then some p else none := by
  unfold pieceAt Sound.takePiece
  simp only
  generalize hr : Sound.fromHigh ((b.drop 5).take 2) = r
  by_cases c : b.take 2 ≠ Sound.high 2 0x4B50 ∨ b.length < 11 + r ∨ Sound.fromHigh ((b.drop (7 + r)).take 4) ≠ Sound.crc32 (b.take (7 + r))
  · rw [if_pos c, if_pos]
    rcases c with c | c | c
    · exact .inl fun z => c ((mark_iff b).mp z)
    · exact .inr (.inr (.inl c))
    · exact .inr (.inr (.inr c))
  · rw [if_neg c]
    have hl : ((b.drop 7).take r).length = r := by
      rw [List.length_take, List.length_drop]
      have : ¬ b.length < 11 + r := fun z => c (.inr (.inl z))
      omega
    simp only [hl]
    by_cases c2 : 3 ≤ r ∧ r ≤ 4098
    · rw [if_pos c2, if_neg]
      rintro (z | z | z | z)
      · exact c (.inl fun y => z ((mark_iff b).mpr y))
      · exact z c2
      · exact c (.inr (.inl z))
      · exact c (.inr (.inr z))
    · rw [if_neg c2, if_pos (.inr (.inl c2))]
theorem take_size {b : Sound.Bytes} {p : Sound.Piece} {n : Nat} (h : Sound.takePiece b = some (p, n)) : n = 11 + p.row.length ∧ n ≤ b.length := by
  unfold Sound.takePiece at h
  simp only at h
  split at h
  · cases h
  · rename_i c
    cases h
    have : ¬ b.length < 11 + Sound.fromHigh ((b.drop 5).take 2) := fun z => c (.inr (.inl z))
    dsimp only
    rw [List.length_take, List.length_drop]
    omega
def PcOut (K : PySem.W.Frag) (C : Addr) (o : Option Sound.Piece) (H : Hp) (Q : VK) : Prop := match o with
  | none => ∀ H', Same H H' → Q .non H'
  | some p => ∀ x H', Same H H' → IsPc K C (newOf H H') x p → Q (.ref x) H'
def spPcAt (K : PySem.W.Frag) (C : Addr) : Sp := fun vs H Q _ => ∃ (q : Addr) (B : Sound.Bytes) (pl : Nat), vs = [.ref q, .int pl] ∧ SqL K H q (vN (bn B)) ∧ (B.length ≤ 16384 ∧ pl ≤ B.length) ∧ PcOut K C (pieceAt (B.drop pl)) H Q
theorem sc_piece_at : FnScope ["data", "place", "front", "row_size", "behind"] ["data", "place"] (defScope s_piece_at) := ⟨rfl, rfl, rfl, by decide +kernel, rfl, by decide +kernel, by decide +kernel⟩
theorem ok_piece_at (T : Txt K mg A) : FnOk P w K mg base CX0 3 A.f_piece_at A.d_piece_at ["data", "place"] (spPcAt K A.c_Piece) := by
  refine T.F_piece_at.ok sc_piece_at (fun vs H Q E h => ?_) (fun cdv Ar outer s H vs Q E hr h => ?_)
  · obtain ⟨q, B, pl, rfl, _⟩ := h
    rfl
  · obtain ⟨q, B, pl, rfl, hq, ⟨hB, hpl⟩, k⟩ := h
    have hr1' : Room 1 _ := hr.mono (by decide)
    refine ⟨_, pss_cons (ps_set (i := 2) sc_piece_at.nd rfl (Or.inl rfl) (pe_slice sl_list (pv 0) (po_some (pv 1)) (po_some (pe_op op_add (pv 1) (pe_gi rfl T.g_FRONT_SIZE)))))
      (pss_cons (ps_set (i := 3) sc_piece_at.nd rfl (Or.inl rfl) (pe_call (ok_from_octets T) hr1' rfl T.m_from_octets T.F_from_octets.kp T.b_from_octets .nil pass0 (pa_cons (pe_slice sl_list (pv 2) (po_some pe_int) po_none) pa_nil)))
      (pss_cons (ps_set (i := 4) sc_piece_at.nd rfl (Or.inl rfl) (pe_op op_add (pe_op op_add (pv 1) (pe_gi rfl T.g_FRONT_SIZE)) (pv 3)))
      (pss_cons (ps_if (PW.pt (pw_or (pt_cmpR op_ne (pe_call (ok_from_octets T) hr1' rfl T.m_from_octets T.F_from_octets.kp T.b_from_octets .nil pass0 (pa_cons (pe_slice sl_list (pv 2) po_none (po_some pe_int)) pa_nil)) (pe_gi rfl T.g_MARK_spares) (nomark _)) (pw_or1 (pt_not (pt_chain op_le op_le (pe_gi rfl T.g_SHORTEST_ROW) (pv 3) (pe_gi rfl T.g_LONGEST_ROW)))))) (pss_one (ps_ret pe_non)) pss_nil)
      (pss_cons (ps_if (pt_cmpR op_gt (pe_op op_add (pv 4) (pe_gi rfl T.g_CRC32_SIZE)) (pe_callB call_len_seq (by rfl) T.z_len PySem.boot_len (pa_cons (pv 0) pa_nil)) (nomark _)) (pss_one (ps_ret pe_non)) pss_nil)
      (pss_cons (ps_if (pt_cmpR op_ne (pe_call (ok_from_octets T) hr1' rfl T.m_from_octets T.F_from_octets.kp T.b_from_octets .nil pass0 (pa_cons (pe_slice sl_list (pv 0) (po_some (pv 4)) (po_some (pe_op op_add (pv 4) (pe_gi rfl T.g_CRC32_SIZE)))) pa_nil))
          (pe_call (ok_crc32 T) hr1' rfl T.m_crc32 T.F_crc32.kp T.b_crc32 .nil pass0 (pa_cons (pe_slice sl_list (pv 0) (po_some (pv 1)) (po_some (pv 4))) pa_nil)) (nomark _)) (pss_one (ps_ret pe_non)) pss_nil)
      (pss_one (ps_ret (pe_make T.k_Piece (ok_Piece_init T) hr rfl T.m_Piece T.b_Piece_init .nil pass0 (pa_cons (pe_call (ok_from_octets T) hr1' rfl T.m_from_octets T.F_from_octets.kp T.b_from_octets .nil pass0 (pa_cons (pe_slice sl_list (pv 2) (po_some pe_int) (po_some pe_int)) pa_nil))
        (pa_cons (pe_ix ix_list (pv 2) pe_int (fun _ _ => rfl)) (pa_cons (pe_slice sl_list (pv 0) (po_some (pe_op op_add (pv 1) (pe_gi rfl T.g_FRONT_SIZE))) (po_some (pv 4))) pa_nil))))))))))), ?_⟩
    have fr : ∀ l : Sound.Bytes, fromN (bn l) = Sound.fromHigh l := fun l => (from_eq l).symm
    refine ⟨_, rfl, _, rfl, _, rfl, _, rfl, _, _, rfl, rfl, _, rfl, q, _, rfl, hq, fun p1 hp1 => ?_⟩
    dsimp only
    rw [show ((pl : Nat) : Int) + 7 = ((pl + 7 : Nat) : Int) by omega, vN_cut, show pl + 7 - pl = 7 by omega, bn_drop, bn_take]
    generalize hb : B.drop pl = b at *
    have s1 := same_new (o := .lst (vN (bn (b.take 7)))) hp1
    have hx1 : upd H p1 (.lst (vN (bn (b.take 7)))) p1 = some (.lst (vN (bn (b.take 7)))) := upd_same
    generalize upd H p1 (.lst (vN (bn (b.take 7)))) = H1 at *
    refine ⟨_, rfl, _, rfl, p1, _, rfl, SqL.of hx1, fun p2 hp2 => ?_⟩
    rw [show (5 : Int) = ((5 : Nat) : Int) from rfl, vN_from, bn_drop, List.drop_take, show 7 - 5 = 2 from rfl]
    refine ⟨p2, bn ((b.drop 5).take 2), rfl, SqL.of upd_same, (by rw [bn_len, List.length_take]; omega), bn_lt _, ?_⟩
    rw [fr]
    have s2 := s1.trans (same_new (o := .lst (vN (bn ((b.drop 5).take 2)))) hp2)
    have hx2 : upd H1 p2 (.lst (vN (bn ((b.drop 5).take 2)))) p1 = some (.lst (vN (bn (b.take 7)))) := same_new hp2 _ _ hx1
    generalize upd H1 p2 (.lst (vN (bn ((b.drop 5).take 2)))) = H2 at *
    unfold PcOut pieceAt at k
    simp only at k
    generalize hrr : Sound.fromHigh ((b.drop 5).take 2) = r at *
    have hblen : b.length = B.length - pl := by rw [← hb, List.length_drop]
    have none_ : (Sound.fromHigh (b.take 2) ≠ 19280 ∨ ¬ (3 ≤ r ∧ r ≤ 4098) ∨ b.length < 11 + r ∨ Sound.fromHigh ((b.drop (7 + r)).take 4) ≠ Sound.crc32 (b.take (7 + r))) → ∀ H', Same H H' → Q .non H' := fun c H' s' => by
      rw [if_pos c] at k
      exact k H' s'
    refine ⟨_, rfl, _, _, rfl, rfl, _, rfl, _, _, rfl, rfl, ?_⟩
    dsimp only
    rw [show ((pl : Nat) : Int) + 7 + ((r : Nat) : Int) = ((pl + 7 + r : Nat) : Int) by omega]
    refine ⟨_, rfl, _, rfl, p1, _, rfl, SqL.of hx2, fun p3 hp3 => ?_⟩
    rw [show (2 : Int) = ((2 : Nat) : Int) from rfl, vN_to, bn_take, List.take_take, show min 2 7 = 2 from rfl]
    refine ⟨p3, bn (b.take 2), rfl, SqL.of upd_same, (by rw [bn_len, List.length_take]; omega), bn_lt _, rfl, _, rfl, ?_⟩
    rw [fr]
    have s3 := s2.trans (same_new (o := .lst (vN (bn (b.take 2)))) hp3)
    have hx3 : upd H2 p3 (.lst (vN (bn (b.take 2)))) p1 = some (.lst (vN (bn (b.take 7)))) := same_new hp3 _ _ hx2
    generalize upd H2 p3 (.lst (vN (bn (b.take 2)))) = H3 at *
    by_cases c1 : Sound.fromHigh (b.take 2) = 19280
    · rw [decide_eq_true (show V.int ((Sound.fromHigh (b.take 2) : Nat) : Int) = V.int 19280 by rw [c1]; rfl)]
      refine iteF ⟨_, rfl, _, _, rfl, rfl, _, rfl, ?_⟩
      by_cases c2 : (3 : Int) ≤ ((r : Nat) : Int)
      · rw [decide_eq_true c2]
        refine iteT ⟨_, _, rfl, rfl, _, rfl, ?_⟩
        by_cases c3 : ((r : Nat) : Int) ≤ 4098
        · rw [decide_eq_true c3]
          refine iteF ⟨_, rfl, _, _, rfl, rfl, _, rfl, q, _, rfl, .inl (s3.seq hq), _, _, rfl, rfl, _, rfl, ?_⟩
          rw [vN_len, bn_len]
          refine ite2 (fun c4 => ?_) fun c4 => ?_
          · have c4 : ((B.length : Nat) : Int) < ((pl + 7 + r : Nat) : Int) + 4 := of_decide_eq_true c4
            exact none_ (.inr (.inr (.inl (by omega)))) _ s3
          · have c4 : ¬ ((B.length : Nat) : Int) < ((pl + 7 + r : Nat) : Int) + 4 := fun z => c4 (decide_eq_true z)
            refine ⟨_, rfl, _, rfl, _, rfl, _, rfl, _, _, rfl, rfl, _, rfl, q, _, rfl, s3.seq hq, fun p4 hp4 => ?_⟩
            dsimp only
            rw [show ((pl + 7 + r : Nat) : Int) + 4 = ((pl + 7 + r + 4 : Nat) : Int) by omega, vN_cut, show pl + 7 + r + 4 - (pl + 7 + r) = 4 by omega, bn_drop, bn_take]
            have e4 : (B.drop (pl + 7 + r)).take 4 = (b.drop (7 + r)).take 4 := by rw [← hb, List.drop_drop, Nat.add_assoc]
            rw [e4]
            refine ⟨p4, bn ((b.drop (7 + r)).take 4), rfl, SqL.of upd_same, (by rw [bn_len, List.length_take]; omega), bn_lt _, ?_⟩
            rw [fr]
            have s4 := s3.trans (same_new (o := .lst (vN (bn ((b.drop (7 + r)).take 4)))) hp4)
            have hx4 : upd H3 p4 (.lst (vN (bn ((b.drop (7 + r)).take 4)))) p1 = some (.lst (vN (bn (b.take 7)))) := same_new hp4 _ _ hx3
            generalize upd H3 p4 (.lst (vN (bn ((b.drop (7 + r)).take 4)))) = H4 at *
            refine ⟨_, rfl, _, rfl, _, rfl, _, rfl, _, rfl, q, _, rfl, s4.seq hq, fun p5 hp5 => ?_⟩
            rw [vN_cut, show pl + 7 + r - pl = 7 + r by omega, bn_drop, bn_take, hb]
            refine ⟨p5, bn (b.take (7 + r)), rfl, SqL.of upd_same, bn_lt _, rfl, _, rfl, ?_⟩
            have ec : crcN (bn (b.take (7 + r))) = Sound.crc32 (b.take (7 + r)) := crc32_eq _
            rw [ec]
            have s5 := s4.trans (same_new (o := .lst (vN (bn (b.take (7 + r))))) hp5)
            have hx5 : upd H4 p5 (.lst (vN (bn (b.take (7 + r))))) p1 = some (.lst (vN (bn (b.take 7)))) := same_new hp5 _ _ hx4
            generalize upd H4 p5 (.lst (vN (bn (b.take (7 + r))))) = H5 at *
            by_cases c5 : Sound.fromHigh ((b.drop (7 + r)).take 4) = Sound.crc32 (b.take (7 + r))
            · rw [decide_eq_true (by rw [c5])]
              refine iteF ?_
              rw [if_neg (by
                rintro (z | z | z | z)
                · exact z c1
                · exact z ⟨by omega, by omega⟩
                · omega
                · exact z c5)] at k
              dsimp only at k
              refine ⟨_, rfl, _, rfl, _, rfl, p1, _, rfl, SqL.of hx5, fun p6 hp6 => ?_⟩
              rw [show (4 : Int) = ((4 : Nat) : Int) from rfl, vN_cut, bn_drop, bn_take, List.drop_take, List.take_take]
              have e6 : ((b.drop 2).take (min (4 - 2) (7 - 2))) = (b.drop 2).take 2 := rfl
              rw [e6]
              refine ⟨p6, bn ((b.drop 2).take 2), rfl, SqL.of upd_same, (by rw [bn_len, List.length_take]; omega), bn_lt _, ?_⟩
              rw [fr]
              have s6 := s5.trans (same_new (o := .lst (vN (bn ((b.drop 2).take 2)))) hp6)
              have hx6 : upd H5 p6 (.lst (vN (bn ((b.drop 2).take 2)))) p1 = some (.lst (vN (bn (b.take 7)))) := same_new hp6 _ _ hx5
              generalize upd H5 p6 (.lst (vN (bn ((b.drop 2).take 2)))) = H6 at *
              have hj : (bn (b.take 7)).getD 4 0 = Sound.fromHigh ((b.drop 4).take 1) := by
                have h4 : 4 < b.length := by omega
                have e : (b.drop 4).take 1 = [b[4]] := by
                  rw [List.drop_eq_getElem_cons h4, List.take_succ_cons, List.take_zero]
                rw [e, from_eq]
                show _ = 256 * 0 + (b[4]).toNat
                unfold bn
                rw [List.getD_eq_getElem?_getD, List.getElem?_map, List.getElem?_take, if_pos (by decide), List.getElem?_eq_getElem h4]
                simp
              refine ⟨_, rfl, p1, _, _, _, rfl, rfl, SqL.of hx6, atI_nat (j := 4) (vN_get (by rw [bn_len, List.length_take]; omega)), ?_⟩
              rw [hj]
              refine ⟨_, rfl, _, rfl, _, _, rfl, rfl, _, rfl, _, rfl, _, rfl, q, _, rfl, s6.seq hq, fun p7 hp7 => ?_⟩
              dsimp only
              rw [show ((pl : Nat) : Int) + 7 = ((pl + 7 : Nat) : Int) by omega, vN_cut, show pl + 7 + r - (pl + 7) = r by omega, bn_drop, bn_take]
              have e7 : (B.drop (pl + 7)).take r = (b.drop 7).take r := by rw [← hb, List.drop_drop]
              rw [e7]
              have s7 := s6.trans (same_new (o := .lst (vN (bn ((b.drop 7).take r)))) hp7)
              have hx7 : upd H6 p7 (.lst (vN (bn ((b.drop 7).take r)))) p7 = some (.lst (vN (bn ((b.drop 7).take r)))) := upd_same
              have n7 : H p7 = none := s6.none hp7
              generalize upd H6 p7 (.lst (vN (bn ((b.drop 7).take r)))) = H7 at *
              intro x dx hx hdx hne
              refine ⟨x, dx, p7, _, _, vN (bn ((b.drop 7).take r)), rfl, upd_same, (same_made hx hdx).seq (SqL.of hx7), ?_⟩
              refine ⟨rfl, ?_⟩
              rw [upd_made]
              refine k x _ (s7.trans (same_made hx hdx)) ⟨dx, p7, ?_, ?_⟩
              · rw [newOf_at (s7.none hx), upd_same, vN_len, bn_len]
              · rw [newOf_at n7]
                exact same_made hx hdx _ _ hx7
            · rw [decide_eq_false (fun z => c5 (by have := V.int.inj z; omega))]
              exact iteT (none_ (.inr (.inr (.inr c5))) _ s5)
        · rw [decide_eq_false c3]
          exact iteT (none_ (.inr (.inl (by omega))) _ s3)
      · rw [decide_eq_false c2]
        exact iteF ⟨_, rfl, iteT (none_ (.inr (.inl (by omega))) _ s3)⟩
    · rw [decide_eq_false (fun z => c1 (by have := V.int.inj z; omega))]
      exact iteT (iteT (none_ (.inl c1) _ s3))
theorem nodup_iff : ∀ l : List Nat, Sound.nodupNats l = true ↔ l.Pairwise (· ≠ ·)
  | [] => by unfold Sound.nodupNats; simp
  | x :: r => by
    unfold Sound.nodupNats
    rw [Bool.and_eq_true, nodup_iff r, List.pairwise_cons]
    simp only [Bool.not_eq_true', List.contains_eq_mem, decide_eq_false_iff_not]
    constructor
    · rintro ⟨h1, h2⟩
      exact ⟨fun y hy e => h1 (e ▸ hy), h2⟩
    · rintro ⟨h1, h2⟩
      exact ⟨fun z => h1 x z rfl, h2⟩
def okP (g : Nat) (p : Sound.Piece) : Prop := p.g = g ∧ p.j < 4 ∧ 3 ≤ p.row.length ∧ p.row.length ≤ 4098
def Tog (g : Nat) (ps : List Sound.Piece) : Prop := (∀ p ∈ ps, okP g p) ∧ ps.Pairwise (fun p q => p.j ≠ q.j ∧ p.row.length = q.row.length)
theorem tog_iff (g : Nat) (ps : List Sound.Piece) : Sound.together g ps = true ↔ Tog g ps := by
  unfold Sound.together Tog okP
  rw [Bool.and_eq_true, nodup_iff, List.pairwise_map, List.all_eq_true]
  simp only [Bool.and_eq_true, beq_iff_eq, decide_eq_true_eq, Sound.LONGEST]
  constructor
  · rintro ⟨h1, h2⟩
    refine ⟨fun p hp => ⟨(h1 p hp).1, (h1 p hp).2.1, (h1 p hp).2.2.2.1, of_decide_eq_true (h1 p hp).2.2.2.2⟩, h2.imp_of_mem fun ha hb n => ⟨n, ?_⟩⟩
    rw [(h1 _ ha).2.2.1, (h1 _ hb).2.2.1]
  · rintro ⟨h1, h2⟩
    refine ⟨fun p hp => ⟨(h1 p hp).1, (h1 p hp).2.1, ?_, (h1 p hp).2.2.1, decide_eq_true (h1 p hp).2.2.2⟩, h2.imp fun h => h.1⟩
    cases ps with
    | nil => cases hp
    | cons a r =>
      rw [List.pairwise_cons] at h2
      rcases List.mem_cons.mp hp with rfl | hp
      · rfl
      · exact (h2.1 p hp).2.symm
theorem tog_snoc (g : Nat) (ps : List Sound.Piece) (p : Sound.Piece) : Tog g (ps ++ [p]) ↔ Tog g ps ∧ okP g p ∧ ∀ q ∈ ps, q.j ≠ p.j ∧ q.row.length = p.row.length := by
  unfold Tog
  rw [List.pairwise_append]
  constructor
  · rintro ⟨h1, h2, _, h3⟩
    exact ⟨⟨fun q hq => h1 q (by simp [hq]), h2⟩, h1 p (by simp), fun q hq => h3 q hq p (by simp)⟩
  · rintro ⟨⟨h1, h2⟩, h3, h4⟩
    refine ⟨fun q hq => ?_, h2, by simp, fun q hq r hr => ?_⟩
    · rcases List.mem_append.mp hq with hq | hq
      · exact h1 q hq
      · rw [List.mem_singleton.mp hq]; exact h3
    · rw [List.mem_singleton.mp hr]; exact h4 q hq
theorem tog_pre (g : Nat) (ps : List Sound.Piece) (p : Sound.Piece) (l : List Sound.Piece) (h : Tog g (ps ++ p :: l)) : Tog g (ps ++ [p]) := by
  have e : ps ++ p :: l = (ps ++ [p]) ++ l := by simp
  rw [e] at h
  unfold Tog at h ⊢
  rw [List.pairwise_append] at h
  exact ⟨fun q hq => h.1 q (List.mem_append_left _ hq), h.2.1⟩
def piecesOK (g : Nat) (B : Sound.Bytes) : Option (List Sound.Piece) := match Sound.piecesIn (B.length + 1) B with
  | none => none
  | some ps => if Sound.together g ps = true then some ps else none
theorem pieces_step (k : Nat) (b : Sound.Bytes) (h : b ≠ []) : Sound.piecesIn (k + 1) b = match Sound.takePiece b with
    | none => none
    | some (p, n) => (Sound.piecesIn k (b.drop n)).map fun (l : List Sound.Piece) => p :: l := by
  conv => lhs; unfold Sound.piecesIn
  rw [if_neg (by simpa using h)]
  cases Sound.takePiece b <;> rfl
theorem pieces_bad {g k : Nat} {B b : Sound.Bytes} {acc : List Sound.Piece} (heq : Sound.piecesIn (B.length + 1) B = (Sound.piecesIn (k + 1) b).map (acc ++ ·)) (hb : b ≠ []) (h : ∀ p n, Sound.takePiece b = some (p, n) → ¬ Tog g (acc ++ [p])) : piecesOK g B = none := by
  unfold piecesOK
  rw [heq, pieces_step k b hb]
  cases e : Sound.takePiece b with
  | none => rfl
  | some x =>
    obtain ⟨p, n⟩ := x
    dsimp only
    cases e2 : Sound.piecesIn k (b.drop n) with
    | none => rfl
    | some l =>
      dsimp only [Option.map_some]
      rw [if_neg]
      rw [tog_iff]
      exact fun z => h p n e (tog_pre g acc p l z)
def goesB (p q : Sound.Piece) : Bool := decide (p.j ≠ q.j) && decide (p.row.length = q.row.length)
def spGoes (K : PySem.W.Frag) (C : Addr) : Sp := fun vs H Q _ => ∃ (a b : Addr) (p q : Sound.Piece), vs = [.ref a, .ref b] ∧ IsPc K C H a p ∧ IsPc K C H b q ∧ Q (.bl (goesB p q)) H
theorem sc_goes_with : FnScope ["piece", "other"] ["piece", "other"] (defScope s_goes_with) := ⟨rfl, rfl, rfl, by decide +kernel, rfl, by decide +kernel, by decide +kernel⟩
theorem ok_goes_with (T : Txt K mg A) : FnOk P w K mg base CX0 1 A.f_goes_with A.d_goes_with ["piece", "other"] (spGoes K A.c_Piece) := by
  refine T.F_goes_with.ok sc_goes_with (fun vs H Q E h => ?_) (fun cdv Ar outer s H vs Q E hr h => ?_)
  · obtain ⟨a, b, p, q, rfl, _⟩ := h
    rfl
  · obtain ⟨a, b, p, q, rfl, ⟨da, ra, ha1, ha2⟩, ⟨db, rb, hb1, hb2⟩, k⟩ := h
    refine ⟨_, pss_one (ps_ret (pe_and (pe_cmpR op_ne (pe_fld (pv 0) rfl) (pe_fld (pv 1) rfl) (nomark _)) (pe_one (pe_cmpR op_eq (pe_callB call_len_seq (by rfl) T.z_len PySem.boot_len (pa_cons (pe_fld (pv 0) rfl) pa_nil)) (pe_callB call_len_seq (by rfl) T.z_len PySem.boot_len (pa_cons (pe_fld (pv 1) rfl) pa_nil)) (nomark _))))), ?_⟩
    refine ⟨_, rfl, a, A.c_Piece, da, _, _, rfl, ha1, T.l_Piece, T.n_Piece_j, rfl, _, rfl, b, A.c_Piece, db, _, _, rfl, hb1, T.l_Piece, T.n_Piece_j, rfl, rfl, _, rfl, ?_⟩
    by_cases c : p.j = q.j
    · rw [decide_eq_true (by rw [c])]
      have : goesB p q = false := by unfold goesB; rw [decide_eq_false (fun z => z c)]; rfl
      rw [this] at k
      exact iteF k
    · rw [decide_eq_false (fun z => c (by have := V.int.inj z; omega))]
      refine iteT ⟨_, rfl, a, A.c_Piece, da, _, _, rfl, ha1, T.l_Piece, T.n_Piece_row, rfl, ra, _, rfl, .inl (SqL.of ha2), _, rfl, b, A.c_Piece, db, _, _, rfl, hb1, T.l_Piece, T.n_Piece_row, rfl, rb, _, rfl, .inl (SqL.of hb2), rfl, ?_⟩
      have e : decide (V.int ((vN (bn p.row)).length : Nat) = V.int ((vN (bn q.row)).length : Nat)) = goesB p q := by
        unfold goesB
        rw [decide_eq_true c, Bool.true_and, vN_len, vN_len, bn_len, bn_len]
        by_cases c2 : p.row.length = q.row.length
        · rw [decide_eq_true c2, decide_eq_true (by rw [c2])]
        · rw [decide_eq_false c2, decide_eq_false (fun z => c2 (by have := V.int.inj z; omega))]
      rw [e]
      exact k
def dPc : Sound.Piece := ⟨0, 0, []⟩
def PcsI (K : PySem.W.Frag) (C : Addr) (H : Hp) (D : Addr) (ps : List Sound.Piece) : Prop := ∃ as : List Addr, SqL K H D (as.map V.ref) ∧ as.length = ps.length ∧ ∀ (k : Nat) (a : Addr), as[k]? = some a → IsPc K C H a (ps.getD k dPc)
theorem PcsI.same {C : Addr} {H H' : Hp} {D : Addr} {ps : List Sound.Piece} (h : PcsI K C H D ps) (s : Same H H') : PcsI K C H' D ps := by
  obtain ⟨as, h1, h2, h3⟩ := h
  exact ⟨as, s.seq h1, h2, fun k a e => (h3 k a e).same s⟩
def spReadP (K : PySem.W.Frag) (A : Adr) : Sp := fun vs H Q E => ∃ (g : Nat) (q : Addr) (B : Sound.Bytes), vs = [.int g, .ref q] ∧ SqL K H q (vN (bn B)) ∧ B.length ≤ 16384 ∧ (match piecesOK g B with
  | none => ∀ H', Same H H' → E (.ref A.c_Unfit) none H'
  | some ps => ∀ D H', H D = none → Same H H' → PcsI K A.c_Piece H' D ps → Q (.ref D) H')
theorem sc_read_pieces : FnScope ["g", "data", "pieces", "place", "piece", "one"] ["g", "data"] (defScope s_read_pieces) := ⟨rfl, rfl, rfl, by decide +kernel, rfl, by decide +kernel, by decide +kernel⟩
theorem ok_read_pieces (T : Txt K mg A) : FnOk P w K mg base (CX1 P w) 4 A.f_read_pieces A.d_read_pieces ["g", "data"] (spReadP K A) := by
  refine T.F_read_pieces.okE sc_read_pieces (fun vs H Q E h => ?_) (fun cdv Ar outer s H vs Q E hr h => ?_)
  · obtain ⟨g, q, B, rfl, _⟩ := h
    rfl
  · obtain ⟨g, q, B, rfl, hq, hB, k⟩ := h
    have hr1' : Room 1 _ := hr.mono (by decide)
    refine ⟨_, pss_cons (ps_set (i := 2) sc_read_pieces.nd rfl (Or.inl rfl) (pe_lst pa_nil))
      (pss_cons (ps_set (i := 3) sc_read_pieces.nd rfl (Or.inl rfl) pe_int)
      (pss_cons (ps_while PassesOwn.leaving (pt_cmpR op_lt (pv 3) (pe_callB call_len_seq (by rfl) T.z_len PySem.boot_len (pa_cons (pv 1) pa_nil)) (nomark _))
        (pss_cons (ps_set (i := 4) sc_read_pieces.nd rfl (Or.inr rfl) (pe_call (ok_piece_at T) hr rfl T.m_piece_at T.F_piece_at.kp T.b_piece_at .nil pass0 (pa_cons (pv 1) (pa_cons (pv 3) pa_nil))))
        (pss_cons (ps_if (PW.pt (pw_or (pt_cmpR op_isN (pv 4) pe_non (nomark _)) (pw_or (pt_cmpR op_ne (pe_fld (pv 4) rfl) (pv 0) (nomark _)) (pw_or1 (pt_cmpR op_ge (pe_fld (pv 4) rfl) (pe_gi rfl T.g_MOST_PIECES) (nomark _)))))) (pss_one (ps_raise rfl rfl T.m_Unfit T.x_Unfit.exc raise1)) pss_nil)
        (pss_cons (ps_if (pt_not (pt_val (pe_callB (cr_all rfl) rfl T.z_all (by decide +kernel : bootBuiltins "all" = some (.builtin "all")) (pa_cons (pe_lc (own := [("one", 5)]) rfl sc_read_pieces.nd (pi_list (pv 2)) (blkOk_by (by kernel_rfl)) (fun _ _ _ _ _ => pg_name (i := 5) sc_read_pieces.nd rfl (Or.inl rfl)) (fun _ _ _ _ _ => pts_nil)
          (fun _ _ _ _ _ => pe_call (ok_goes_with T) hr1' rfl T.m_goes_with T.F_goes_with.kp T.b_goes_with .nil pass0 (pa_cons (pv 4) (pa_cons (pv 5) pa_nil)))) pa_nil)))) (pss_one (ps_raise rfl rfl T.m_Unfit T.x_Unfit.exc raise1)) pss_nil)
        (pss_cons (ps_expr (pe_bm PySem.F.plainAttrs_list PySem.F.slot_list_append PySem.F.type_list_append mt_append (pv 2) (pa_cons (pv 4) pa_nil)))
        (pss_one (ps_aug (i := 3) sc_read_pieces.nd rfl (Or.inl rfl) (pe_fld (pv 4) rfl) iop_add)))))))
      (pss_one (ps_ret (pv 2))))), ?_⟩
    refine ⟨by rw [sizeLine_eq]; show 0 ≤ _; omega, fun F hF => ?_⟩
    refine while_cps (fun σ H' => ∃ (pl fuel : Nat) (acc : List Sound.Piece) (as : List Addr) (v4 v5 : Option V), σ = [some (.int g), some (.ref q), some (.ref F), some (.int pl), v4, v5] ∧ pl ≤ B.length ∧ B.length - pl < fuel ∧ Sound.piecesIn (B.length + 1) B = (Sound.piecesIn fuel (B.drop pl)).map (acc ++ ·) ∧
      Tog g acc ∧ Same H H' ∧ H' F = some (.lst (as.map V.ref)) ∧ as.length = acc.length ∧ acc.length ≤ pl ∧ ∀ (k : Nat) (a : Addr), as[k]? = some a → IsPc K A.c_Piece (hide F H') a (acc.getD k dPc)) (muAt 3 B.length)
      ⟨0, B.length + 1, [], [], none, none, rfl, Nat.zero_le _, by omega, (by rw [List.drop_zero]; simp), ⟨by simp, by simp⟩, same_new hF, upd_same, rfl, Nat.le_refl _, fun k a e => by simp at e⟩ ?_
    rintro σ H1 ⟨pl, fuel, acc, as, v4, v5, rfl, hpl, hfu, heq, htog, s1, hFx, hlen, hap, has⟩ C hT hN
    refine ⟨_, rfl, _, rfl, q, _, rfl, .inl (s1.seq hq), _, _, rfl, rfl, _, rfl, ?_⟩
    rw [vN_len, bn_len]
    obtain ⟨fuel, rfl⟩ : ∃ m, fuel = m + 1 := ⟨fuel - 1, by omega⟩
    by_cases hc : ((pl : Nat) : Int) < ((B.length : Nat) : Int)
    · rw [decide_eq_true hc]
      refine hT _ ?_
      have hne : B.drop pl ≠ [] := fun z => by
        have := congrArg List.length z
        rw [List.length_drop] at this; simp at this; omega
      have bad : (∀ p n, Sound.takePiece (B.drop pl) = some (p, n) → ¬ Tog g (acc ++ [p])) → ∀ H', Same H H' → E (.ref A.c_Unfit) none H' := fun hb => by
        rw [pieces_bad heq hne hb] at k
        exact k
      refine ⟨_, rfl, _, rfl, q, B, pl, rfl, s1.seq hq, ⟨hB, hpl⟩, ?_⟩
      have hat := pieceAt_take (B.drop pl)
      cases e : pieceAt (B.drop pl) with
      | none =>
        intro H2 s2
        refine ⟨_, rfl, rfl, _, rfl, ?_⟩
        refine iteT (iteT (bad (fun p n et ht => ?_) _ (s1.trans s2)))
        rw [e, et] at hat
        dsimp only at hat
        have := ((tog_snoc g acc p).mp ht).2.1
        rw [if_pos this.2.2] at hat
        cases hat
      | some p =>
        rw [e] at hat
        obtain ⟨n, et⟩ : ∃ n, Sound.takePiece (B.drop pl) = some (p, n) := by
          cases et : Sound.takePiece (B.drop pl) with
          | none => rw [et] at hat; cases hat
          | some x =>
            obtain ⟨p', n⟩ := x
            rw [et] at hat
            dsimp only at hat
            split at hat
            · cases hat; exact ⟨n, rfl⟩
            · cases hat
        rw [et] at hat
        dsimp only at hat
        have hp3 : 3 ≤ p.row.length ∧ p.row.length ≤ 4098 := by
          split at hat
          · assumption
          · cases hat
        obtain ⟨hn, hnl⟩ := take_size et
        rw [List.length_drop] at hnl
        intro x H2 s2 hx
        have bad2 : (¬ (p.g = g ∧ p.j < 4 ∧ ∀ q ∈ acc, q.j ≠ p.j ∧ q.row.length = p.row.length)) → ∀ H', Same H H' → E (.ref A.c_Unfit) none H' := fun hb => bad fun p' n' et' ht => by
          rw [et] at et'
          cases et'
          obtain ⟨_, h2, h3⟩ := (tog_snoc g acc p).mp ht
          exact hb ⟨h2.1, h2.2.1, h3⟩
        obtain ⟨dx, qx, hx1, hx2⟩ := id hx
        have hx1' := (newOf_in hx1).2
        have s12 := s1.trans s2
        have hF2 := s2 _ _ hFx
        refine ⟨_, rfl, rfl, _, rfl, iteF ⟨_, rfl, x, A.c_Piece, dx, _, _, rfl, hx1', T.l_Piece, T.n_Piece_g, rfl, _, rfl, rfl, _, rfl, ?_⟩⟩
        by_cases c1 : p.g = g
        · rw [decide_eq_true (by rw [c1])]
          refine iteF ⟨_, rfl, x, A.c_Piece, dx, _, _, rfl, hx1', T.l_Piece, T.n_Piece_j, rfl, _, _, rfl, rfl, _, rfl, ?_⟩
          refine ite2 (fun c2 => ?_) fun c2 => ?_
          · have c2 : (4 : Int) ≤ ((p.j : Nat) : Int) := of_decide_eq_true c2
            exact bad2 (fun z => by have := z.2.1; omega) _ s12
          · have c2 : ¬ (4 : Int) ≤ ((p.j : Nat) : Int) := fun z => c2 (decide_eq_true z)
            have hpx : IsPc K A.c_Piece H2 x p := hx.same (newOf_same _ _)
            have hitem : ∀ (k : Nat) (a : Addr), as[k]? = some a → IsPc K A.c_Piece H2 a (acc.getD k dPc) := fun k a e => ((has k a e).same (hide_same _ _)).same s2
            refine ⟨_, rfl, F, rfl, ⟨_, SqL.of hF2⟩, fun D hD => ?_⟩
            refine lc_val (J := Itl K F) hD acc.length (by rw [sizeLine_eq]; omega) (fun i => .bl (goesB p (acc.getD i dPc))) (fun i Hh hi t1 => ?_) (fun Hh t1 => ⟨_, t1.seq (SqL.of hF2), by rw [List.length_map]; omega⟩) ?_ ?_
            · obtain ⟨a, h1, _⟩ := ref_get (as := as) (i := i) (by omega)
              exact ⟨_, _, t1.seq (SqL.of hF2), h1⟩
            · rintro i Hh z H' hi t1 ⟨rfl, hz⟩ C hC
              obtain ⟨a, rfl, ha⟩ := ref_get' (hz _ (t1.seq (SqL.of hF2)))
              exact ⟨rfl, _, rfl, _, rfl, x, a, p, _, rfl, hpx.same t1, (hitem i a ha).same t1, hC _ (Same.refl _)⟩
            · intro H3 s3 hx3
              have ebs : (List.range acc.length).map (fun i => V.bl (goesB p (acc.getD i dPc))) = (acc.map (goesB p)).map V.bl := by
                rw [List.map_map]
                refine List.ext_getElem (by simp) fun i h1 h2 => ?_
                simp at h1
                simp [List.getD_eq_getElem?_getD, List.getElem?_eq_getElem h1]
              rw [ebs] at hx3
              refine ⟨D, _, rfl, SqL.of hx3, _, rfl, ?_⟩
              have hall : ((acc.map (goesB p)).all id = true) ↔ ∀ q ∈ acc, q.j ≠ p.j ∧ q.row.length = p.row.length := by
                rw [List.all_map, List.all_eq_true]
                refine forall_congr' fun q => forall_congr' fun _ => ?_
                show goesB p q = true ↔ _
                unfold goesB
                rw [Bool.and_eq_true, decide_eq_true_eq, decide_eq_true_eq]
                exact ⟨fun z => ⟨Ne.symm z.1, z.2.symm⟩, fun z => ⟨Ne.symm z.1, z.2.symm⟩⟩
              have s13 := s12.trans s3
              cases hb : (acc.map (goesB p)).all id with
              | false =>
                refine iteT (bad2 (fun z => ?_) _ s13)
                rw [hall.mpr z.2.2] at hb; cases hb
              | true =>
                have hall := hall.mp hb
                have hF3 := s3 _ _ hF2
                have nF : newOf H1 H2 F = none := by unfold newOf; rw [hFx]
                have hxh : IsPc K A.c_Piece (hide F H3) x p := by
                  have ne1 : x ≠ F := fun z => by rw [z, nF] at hx1; cases hx1
                  have ne2 : qx ≠ F := fun z => by rw [z, nF] at hx2; cases hx2
                  exact ⟨dx, qx, by rw [hide_ne ne1]; exact s3 _ _ hx1', by rw [hide_ne ne2]; exact s3 _ _ (newOf_in hx2).2⟩
                refine iteF ⟨_, rfl, .inl ⟨rfl, _, SqL.of hF3⟩, _, rfl, F, _, _, rfl, rfl, hF3, (by rw [List.length_map, sizeLine_eq]; omega), ?_⟩
                have hxF : upd H3 F (.lst (as.map V.ref ++ [V.ref x])) x = some (.ins A.c_Piece dx (pcf (.int p.g) (.int p.j) (.ref qx) (.int (11 + p.row.length : Nat)))) := by
                  have ne1 : x ≠ F := fun z => by rw [z, nF] at hx1; cases hx1
                  rw [upd_ne ne1]; exact s3 _ _ hx1'
                refine ⟨_, rfl, _, rfl, x, A.c_Piece, dx, _, _, rfl, hxF, T.l_Piece, T.n_Piece_size, rfl, _, _, rfl, rfl, ?_⟩
                dsimp only
                rw [show ((pl : Nat) : Int) + ((11 + p.row.length : Nat) : Int) = ((pl + n : Nat) : Int) by omega]
                refine ⟨⟨pl + n, fuel, acc ++ [p], as ++ [x], _, _, rfl, by omega, by omega, ?_, (tog_snoc g acc p).mpr ⟨htog, ⟨c1, by omega, hp3.1, hp3.2⟩, hall⟩, same_keep s13 hF, ?_, ?_, ?_, ?_⟩, ?_⟩
                · rw [heq, pieces_step fuel _ hne, et]
                  dsimp only
                  rw [List.drop_drop, Option.map_map]
                  congr 1
                  funext l
                  simp
                · rw [upd_same]; simp
                · simp [hlen]
                · simp; omega
                · intro k a e
                  rw [hide_upd]
                  by_cases hk : k < as.length
                  · rw [List.getElem?_append_left hk] at e
                    rw [List.getD_eq_getElem?_getD, List.getElem?_append_left (by omega), ← List.getD_eq_getElem?_getD]
                    exact (has k a e).same (hide_mono (s2.trans s3))
                  · rw [List.getElem?_append_right (by omega)] at e
                    have hk0 : k - as.length = 0 := by
                      have := (List.getElem?_eq_some_iff.mp e).1
                      simp at this; omega
                    rw [hk0] at e
                    obtain rfl : x = a := Option.some.inj e
                    rw [List.getD_eq_getElem?_getD, List.getElem?_append_right (by omega), show k - acc.length = 0 by omega]
                    exact hxh
                · show B.length - ((pl + n : Nat) : Int).toNat < B.length - ((pl : Nat) : Int).toNat
                  omega
        · rw [decide_eq_false (fun z => c1 (by have := V.int.inj z; omega))]
          exact iteT (bad2 (fun z => c1 z.1) _ s12)
    · rw [decide_eq_false hc]
      refine hN _ ?_
      have hdr : B.drop pl = [] := drop_all (by omega)
      have h0 : Sound.piecesIn (fuel + 1) [] = some [] := by unfold Sound.piecesIn; rfl
      rw [hdr, h0, Option.map_some, List.append_nil] at heq
      have hok : piecesOK g B = some acc := by
        unfold piecesOK
        rw [heq]
        dsimp only
        rw [if_pos ((tog_iff g acc).mpr htog)]
      rw [hok] at k
      exact ⟨_, rfl, k F H1 hF s1 ⟨as, SqL.of hFx, hlen, fun k a e => (has k a e).same (hide_same _ _)⟩⟩
theorem slK {X : Cx} {K : PySem.W.Frag} (h : X.K = K) : SlR X (rSlL K) := by subst h; exact sl_list
theorem getD_m {M : List (List Nat)} {i : Nat} (h : i < M.length) : M.getD i [] = M[i] := by
  rw [List.getD_eq_getElem?_getD, List.getElem?_eq_getElem h]; rfl
theorem stepG_len (M : List (List Nat)) (c : Nat) : (stepG Sound.inverse M c).length = M.length := by unfold stepG; rw [List.length_mapIdx]
theorem ch_len (M : List (List Nat)) (c : Nat) : (chG Sound.inverse M c).length = (M.getD c []).length := by unfold chG; rw [List.length_map]
theorem step_get {M : List (List Nat)} {c i : Nat} (h : i < M.length) : (stepG Sound.inverse M c).getD i [] = if i = c then chG Sound.inverse M c else Sound.added (M.getD i []) ((chG Sound.inverse M c).map (Sound.mul ((M.getD i []).getD c 0))) := by
  unfold stepG
  rw [getD_m (by rw [List.length_mapIdx]; exact h), List.getElem_mapIdx, getD_m h]
theorem stepsG_succ : ∀ (k c : Nat) (M : List (List Nat)), stepsG (k + 1) c M = stepG Sound.inverse (stepsG k c M) (c + k)
  | 0, c, M => rfl
  | k + 1, c, M => by
    show stepsG (k + 1) (c + 1) (stepG Sound.inverse M c) = _
    rw [stepsG_succ k (c + 1), show c + 1 + k = c + (k + 1) by omega]
    rfl
theorem steps_piv : ∀ (n c : Nat) (M : List (List Nat)), pivsG Sound.inverse n c M = true → ∀ i, i < n → ((stepsG i c M).getD (c + i) []).getD (c + i) 0 ≠ 0
  | 0, c, M, _, i, hi => by omega
  | n + 1, c, M, h, i, hi => by
    have h : ((M.getD c []).getD c 0 != 0 && pivsG Sound.inverse n (c + 1) (stepG Sound.inverse M c)) = true := h
    rw [Bool.and_eq_true] at h
    cases i with
    | zero =>
      show (M.getD c []).getD c 0 ≠ 0
      simpa using h.1
    | succ i =>
      have := steps_piv n (c + 1) _ h.2 i (by omega)
      rw [show c + 1 + i = c + (i + 1) by omega] at this
      exact this
def Wide (L : Nat) (M : List (List Nat)) : Prop := ∀ r ∈ M, r.length = L
theorem wide_get {L : Nat} {M : List (List Nat)} (h : Wide L M) {i : Nat} (hi : i < M.length) : (M.getD i []).length = L := h _ (by rw [getD_m hi]; exact List.getElem_mem hi)
theorem step_wide {L : Nat} {M : List (List Nat)} (h : Wide L M) {c : Nat} (hc : c < M.length) : Wide L (stepG Sound.inverse M c) := fun r hr => by
  obtain ⟨i, hi, rfl⟩ := List.getElem_of_mem hr
  rw [stepG_len] at hi
  rw [← getD_m, step_get hi]
  split
  · rw [ch_len, wide_get h hc]
  · rw [added_len, List.length_map, ch_len, wide_get h hi, wide_get h hc, Nat.min_self]
theorem stepsG_len : ∀ (k c : Nat) (M : List (List Nat)), (stepsG k c M).length = M.length
  | 0, _, _ => rfl
  | k + 1, c, M => by show (stepsG k (c + 1) _).length = _; rw [stepsG_len, stepG_len]
theorem steps_wide {L : Nat} : ∀ (k c : Nat) (M : List (List Nat)), Wide L M → c + k ≤ M.length → Wide L (stepsG k c M)
  | 0, _, _, h, _ => h
  | k + 1, c, M, h, hk => steps_wide k (c + 1) _ (step_wide h (by omega)) (by rw [stepG_len]; omega)
theorem steps_byt : ∀ (k c : Nat) (M : List (List Nat)), Byt M → Byt (stepsG k c M)
  | 0, _, _, h => h
  | k + 1, c, M, h => steps_byt k (c + 1) _ (step_byt h c)
def spSolved (K : PySem.W.Frag) : Sp := fun vs H Q _ => ∃ (q : Addr) (M : List (List Nat)) (L : Nat), vs = [.ref q] ∧ RowsN K H q M ∧ (Wide L M ∧ M.length ≤ L ∧ L ≤ 10000) ∧ Byt M ∧ pivsG Sound.inverse M.length 0 M = true ∧
  ∀ D H', H D = none → Same H H' → RowsN K (newOf H H') D ((stepsG M.length 0 M).map (List.drop M.length)) → Q (.ref D) H'
theorem sc_solved_field : FnScope ["equations", "rows", "step", "chosen", "place", "row"] ["equations"] (defScope s_solved_field) := ⟨rfl, rfl, rfl, by decide +kernel, rfl, by decide +kernel, by decide +kernel⟩
theorem inverse_lt {a : Nat} (h : a < 256) (h0 : a ≠ 0) : Sound.inverse a < 256 := (inv_first h h0).1
theorem ok_solved_field (T : Txt K mg A) : FnOk P w K mg base CX0 3 A.f_solved_field A.d_solved_field ["equations"] (spSolved K) := by
  refine T.F_solved_field.ok sc_solved_field (fun vs H Q E h => ?_) (fun cdv Ar outer s H vs Q E hr h => ?_)
  · obtain ⟨q, M, L, rfl, _⟩ := h
    rfl
  · obtain ⟨q, M, L, rfl, hq, ⟨hW, hML, hL⟩, hB, hpiv, k⟩ := h
    have hr1' : Room 1 _ := hr.mono (by decide)
    refine ⟨_, pss_cons (ps_set (i := 1) sc_solved_field.nd rfl (Or.inl rfl) (pv 0))
      (pss_cons (ps_for PassesOwn.never rfl (pi_range1 rfl T.z_range (pa_cons (pe_callB call_len_seq (by rfl) T.z_len PySem.boot_len (pa_cons (pv 0) pa_nil)) pa_nil)) (pg_name (i := 2) sc_solved_field.nd rfl (Or.inr rfl))
        (pss_cons (ps_set (i := 3) sc_solved_field.nd rfl (Or.inr rfl) (pe_call (ok_scaled T) hr rfl T.m_scaled T.F_scaled.kp T.b_scaled .nil pass0 (pa_cons (pe_call (ok_inverse T) hr rfl T.m_inverse T.F_inverse.kp T.b_inverse .nil pass0 (pa_cons (pe_ix (ixL (K := K) rfl) (pe_ix (ixL (K := K) rfl) (pv 1) (pv 2) (fun _ _ => rfl)) (pv 2) (fun _ _ => rfl)) pa_nil)) (pa_cons (pe_ix (ixL (K := K) rfl) (pv 1) (pv 2) (fun _ _ => rfl)) pa_nil))))
        (pss_one (ps_setLc (i := 1) (own := [("place", 4), ("row", 5)]) rfl sc_solved_field.nd rfl rfl rfl (pi_enum rfl T.z_enumerate (pa_cons (pv 1) pa_nil)) (blkOk_by (by kernel_rfl))
          (fun _ _ _ _ _ => pgtK (K := K) (n := 2) rfl rfl (pgs_cons (pg_name (i := 4) sc_solved_field.nd rfl (Or.inl rfl)) (pgs_cons (pg_name (i := 5) sc_solved_field.nd rfl (Or.inl rfl)) pgs_nil))) (fun _ _ _ _ _ => pts_nil)
          (fun _ _ _ _ _ => pe_ifExp (pt_cmpR op_eq (pv 4) (pv 2) (nomark _)) (pv 3) (pe_call (ok_added T) hr1' rfl T.m_added T.F_added.kp T.b_added .nil pass0 (pa_cons (pv 5) (pa_cons (pe_call (ok_scaled T) hr rfl T.m_scaled T.F_scaled.kp T.b_scaled .nil pass0 (pa_cons (pe_ix (ixL (K := K) rfl) (pv 5) (pv 2) (fun _ _ => rfl)) (pa_cons (pv 3) pa_nil))) pa_nil))))))))
      (pss_one (ps_ret (pe_lc (own := [("row", 5)]) rfl sc_solved_field.nd (pi_list (pv 1)) (blkOk_by (by kernel_rfl)) (fun _ _ _ _ _ => pg_name (i := 5) sc_solved_field.nd rfl (Or.inl rfl)) (fun _ _ _ _ _ => pts_nil)
        (fun _ _ _ _ _ => pe_slice (slK (K := K) rfl) (pv 5) (po_some (pe_callB (lenK (K := K) rfl) (by rfl) T.z_len PySem.boot_len (pa_cons (pv 0) pa_nil))) po_none))))), ?_⟩
    obtain ⟨as0, hq1, hq2, hq3⟩ := id hq
    refine ⟨_, rfl, _, rfl, q, _, rfl, .inl hq1, ((M.length : Nat) : Int), ?_, by omega, by omega, ?_⟩
    · rw [List.length_map, hq2]
    refine for_range (lo := 0) (n := ((M.length : Nat) : Int).toNat) (fun j σ H' => ∃ (t : Addr) (v2 v3 v4 v5 : Option V), Same H H' ∧ RowsN K H' t (stepsG j 0 M) ∧ σ = [some (.ref q), some (.ref t), v2, v3, v4, v5]) ⟨q, none, none, none, none, Same.refl _, hq, rfl⟩ ?_ ?_
    · rintro j σ H1 hj ⟨t, v2, v3, v4, v5, s1, ht, rfl⟩
      rw [Int.toNat_natCast] at hj
      have hp := steps_piv _ _ _ hpiv j hj
      rw [Nat.zero_add] at hp
      have hst : stepsG (j + 1) 0 M = stepG Sound.inverse (stepsG j 0 M) j := by rw [stepsG_succ, Nat.zero_add]
      have hlen := stepsG_len j 0 M
      have hWj := steps_wide j 0 M hW (by omega)
      have hBj := steps_byt j 0 M hB
      rw [hst]
      generalize stepsG j 0 M = N at *
      obtain ⟨as, h1, h2, h3⟩ := id ht
      obtain ⟨a, ha1, ha2⟩ := ref_get (as := as) (i := j) (by omega)
      have hra := h3 j a ha2
      have hwl := wide_get hWj (i := j) (by omega)
      have hbj := getD_row hBj j
      have ej : (0 : Int) + ((j : Nat) : Int) = ((j : Nat) : Int) := by omega
      rw [ej]
      have hpl : (N.getD j []).getD j 0 < 256 := getD_lt0 hbj (by decide)
      refine ⟨_, rfl, _, rfl, t, _, _, _, rfl, rfl, h1, atI_nat ha1, _, rfl, a, _, _, _, rfl, rfl, hra, atI_nat (vN_get (by omega)), (N.getD j []).getD j 0, rfl, ⟨hpl, hp⟩, fun H2 s2 => ?_⟩
      refine ⟨_, rfl, _, rfl, t, _, _, _, rfl, rfl, s2.seq h1, atI_nat ha1, Sound.inverse ((N.getD j []).getD j 0), a, N.getD j [], rfl, inverse_lt hpl hp, s2.seq hra, hbj, by omega, fun D1 H3 hD1 s3 hx3 => ?_⟩
      have ech : (N.getD j []).map (Sound.mul (Sound.inverse ((N.getD j []).getD j 0))) = chG Sound.inverse N j := rfl
      rw [ech] at hx3
      have s23 := s2.trans s3
      refine ⟨_, rfl, t, _, rfl, s23.seq h1, fun D2 hD2 => ?_⟩
      refine lc_rel (J := Ite K t) hD2 N.length (by rw [sizeLine_eq]; omega) (fun i v Hh => ∃ b, v = .ref b ∧ SqL K Hh b (vN ((stepG Sound.inverse N j).getD i []))) (fun i v Ha Hb _ sab ⟨b, e, hb⟩ => ⟨b, e, sab.seq hb⟩) (fun i Hh hi t1 => ?_) (fun Hh t1 => ⟨_, t1.seq (s23.seq h1), by rw [List.length_map]; omega⟩) ?_ ?_
      · obtain ⟨b, hb1, _⟩ := ref_get (as := as) (i := i) (by omega)
        exact ⟨_, _, t1.seq (s23.seq h1), hb1⟩
      · rintro i Hh z H' hi t1 hacc ⟨T1, x1, rfl, hT1, rfl, hz⟩ C hC
        obtain ⟨b, rfl, hb⟩ := ref_get' (hz _ (t1.seq (s23.seq h1)))
        have sT := same_new (o := .tup [.int (i : Nat), .ref b]) hT1
        obtain ⟨accl, hDacc⟩ := hacc
        have hrb := h3 i b hb
        have hwi := wide_get hWj (i := i) (by omega)
        have hbi := getD_row hBj i
        refine ⟨T1, _, rfl, SqT.of upd_same, rfl, _, _, rfl, _, _, rfl, rfl, rfl, _, rfl, _, rfl, rfl, _, rfl, ?_⟩
        by_cases c : i = j
        · rw [decide_eq_true (by rw [c])]
          refine iteT ⟨_, rfl, hC _ _ sT ⟨D1, rfl, ?_⟩⟩
          rw [step_get hi, if_pos c]
          have hD1ne : D1 ≠ D2 := fun z => by rw [z, hD2] at hx3; cases hx3
          exact SqL.of (by rw [hide_ne hD1ne]; exact sT _ _ (t1 _ _ hx3))
        · rw [decide_eq_false (fun z => c (by have := V.int.inj z; omega))]
          refine iteF ⟨_, rfl, _, rfl, _, rfl, b, _, _, _, rfl, rfl, sT.seq (t1.seq (s23.seq hrb)), atI_nat (vN_get (by omega)), _, rfl, (N.getD i []).getD j 0, D1, chG Sound.inverse N j, rfl, getD_lt0 hbi (by decide), sT.seq (t1.seq (SqL.of hx3)), ?_, ?_, fun D3 H4 hD3 s4 hx4 => ?_⟩
          · exact scaled_lt (inverse_lt hpl hp) _
          · rw [ch_len]; omega
          · refine ⟨b, D3, N.getD i [], _, rfl, s4.seq (sT.seq (t1.seq (s23.seq hrb))), SqL.of hx4, (by rw [List.length_map, ch_len]; omega), by omega, fun D4 H5 hD4 s5 hx5 => ?_⟩
            refine hC _ _ (sT.trans (s4.trans s5)) ⟨D4, rfl, ?_⟩
            rw [step_get hi, if_neg c]
            have hne : D4 ≠ D2 := fun z => by
              have := (sT.trans s4) _ _ hDacc
              rw [z, this] at hD4; cases hD4
            exact SqL.of (by rw [hide_ne hne]; exact hx5)
      · intro H4 xs s4 hxl hxp hx4
        have hrefs : ∃ bs : List Addr, xs = bs.map V.ref ∧ ∀ (k : Nat) (b : Addr), bs[k]? = some b → SqL K H4 b (vN ((stepG Sound.inverse N j).getD k [])) := by
          refine ⟨xs.map fun v => match v with | .ref b => b | _ => 0, ?_, fun k b e => ?_⟩
          · refine List.ext_getElem (by simp) fun k k1 k2 => ?_
            simp at k2
            obtain ⟨b, hb, _⟩ := hxp k _ (List.getElem?_eq_getElem k2)
            simp [hb]
          · rw [List.getElem?_map] at e
            obtain ⟨v, hv, rfl⟩ := Option.map_eq_some_iff.mp e
            obtain ⟨b, rfl, hb⟩ := hxp k v hv
            exact hb
        obtain ⟨bs, rfl, hbs⟩ := hrefs
        rw [List.length_map] at hxl
        exact ⟨D2, _, _, _, _, s1.trans (s23.trans s4), ⟨bs, SqL.of hx4, by rw [hxl, stepG_len], hbs⟩, rfl⟩
    · rintro σ H1 ⟨t, v2, v3, v4, v5, s1, ht, rfl⟩
      rw [Int.toNat_natCast] at ht
      have hlen := stepsG_len M.length 0 M
      generalize stepsG M.length 0 M = N at *
      obtain ⟨as, h1, h2, h3⟩ := id ht
      refine ⟨_, rfl, t, rfl, ⟨_, h1⟩, fun D hD => ?_⟩
      refine lc_rel (J := Itl K t) hD N.length (by rw [sizeLine_eq]; omega) (fun i v Hh => ∃ b, v = .ref b ∧ H b = none ∧ Hh b = some (.lst (vN ((N.getD i []).drop M.length)))) (fun i v Ha Hb _ sab ⟨b, e, h0, hb⟩ => ⟨b, e, h0, sab _ _ hb⟩) (fun i Hh hi t1 => ?_) (fun Hh t1 => ⟨_, t1.seq h1, by rw [List.length_map]; omega⟩) ?_ ?_
      · obtain ⟨b, hb1, _⟩ := ref_get (as := as) (i := i) (by omega)
        exact ⟨_, _, t1.seq h1, hb1⟩
      · rintro i Hh z H' hi t1 ⟨accl, hDacc⟩ ⟨rfl, hz⟩ C hC
        obtain ⟨b, rfl, hb⟩ := ref_get' (hz _ (t1.seq h1))
        have hrb := h3 i b hb
        refine ⟨rfl, _, rfl, _, rfl, q, _, rfl, .inl (t1.seq (s1.seq hq1)), _, rfl, b, _, rfl, t1.seq hrb, fun p hp => hC _ _ (same_new hp) ⟨p, rfl, (s1.trans t1).none hp, ?_⟩⟩
        have hne : p ≠ D := fun z => by rw [z, hDacc] at hp; cases hp
        rw [List.length_map, hq2, vN_from]
        rw [hide_ne hne, upd_same]
      · intro H4 xs s4 hxl hxp hx4
        have hrefs : ∃ bs : List Addr, xs = bs.map V.ref ∧ ∀ (k : Nat) (b : Addr), bs[k]? = some b → H b = none ∧ H4 b = some (.lst (vN ((N.getD k []).drop M.length))) := by
          refine ⟨xs.map fun v => match v with | .ref b => b | _ => 0, ?_, fun k b e => ?_⟩
          · refine List.ext_getElem (by simp) fun k k1 k2 => ?_
            simp at k2
            obtain ⟨b, hb, _⟩ := hxp k _ (List.getElem?_eq_getElem k2)
            simp [hb]
          · rw [List.getElem?_map] at e
            obtain ⟨v, hv, rfl⟩ := Option.map_eq_some_iff.mp e
            obtain ⟨b, rfl, hb⟩ := hxp k v hv
            exact hb
        obtain ⟨bs, rfl, hbs⟩ := hrefs
        rw [List.length_map] at hxl
        refine k D H4 (s1.none hD) (s1.trans s4) ⟨bs, SqL.of (by rw [newOf_at (s1.none hD)]; exact hx4), by rw [List.length_map]; exact hxl, fun k b e => ?_⟩
        have hk : k < N.length := by
          have := (List.getElem?_eq_some_iff.mp e).1
          omega
        have eg : (N.map (List.drop M.length)).getD k [] = (N.getD k []).drop M.length := by
          rw [List.getD_eq_getElem?_getD, List.getElem?_map, List.getElem?_eq_getElem hk, getD_m hk]; rfl
        rw [eg]
        obtain ⟨z1, z2⟩ := hbs k b e
        exact SqL.of (by rw [newOf_at z1]; exact z2)
theorem lcf_val {J : It} {H1 : Hp} {D : Addr} {σ : L2.St} {vs : List Nat} {g : TG} {tt : TT} {te : TE} {Qf : Hp → Prop} (hD : H1 D = none) (n : Nat) (hn : n ≤ sizeLine) (keep : Nat → Bool) (val : Nat → V)
    (hgo : ∀ i Hh, i < n → Same H1 Hh → J.go i Hh) (hstop : ∀ Hh, Same H1 Hh → J.stop n Hh)
    (turn : ∀ i Hh x H', i < n → Same H1 Hh → J.yld i Hh x H' → ∀ (C : VK) (N : Hp → Prop), (keep i = true → ∀ H4, Same Hh H4 → C (val i) H4) → (keep i = false → ∀ H4, Same Hh H4 → N H4) → g x (wipe σ vs) H' fun σ2 H2 => wipe σ2 vs = wipe σ vs ∧ tt σ2 H2 fun b H3 => if b = true then te σ2 H3 C else N H3)
    (fin : ∀ Hh, Same H1 Hh → Hh D = some (.lst (((List.range n).filter keep).map val)) → Qf Hh) :
    ∃ W : Nat → Nat → Hp → Prop, (∃ m, W 0 m (upd H1 D (.lst []))) ∧ ∀ i m H, W i m H →
      (J.stop i H ∧ Qf H) ∨ (J.go i H ∧ ∃ Nx : Hp → Prop, (∀ H', Nx H' → ∃ m', m' < m ∧ W (i + 1) m' H') ∧ ∀ x H', J.yld i H x H' → g x (wipe σ vs) H' fun σ2 H2 => wipe σ2 vs = wipe σ vs ∧ tt σ2 H2 fun b H3 =>
        if b = true then te σ2 H3 fun y H4 => ∃ acc, H4 D = some (.lst acc) ∧ acc.length < sizeLine ∧ Nx (upd H4 D (.lst (acc ++ [y]))) else Nx H3) := by
  refine ⟨fun i m H => i + m = n ∧ Same H1 H ∧ H D = some (.lst (((List.range i).filter keep).map val)), ⟨n, by omega, same_new hD, upd_same⟩, ?_⟩
  rintro i m H ⟨hm, s1, hx⟩
  by_cases hi : i = n
  · subst hi
    exact .inl ⟨hstop H s1, fin H s1 hx⟩
  · have hi : i < n := by omega
    refine .inr ⟨hgo i H hi s1, fun H' => ∃ m', m' < m ∧ i + 1 + m' = n ∧ Same H1 H' ∧ H' D = some (.lst (((List.range (i + 1)).filter keep).map val)), fun H' ⟨m', h1, h2, h3⟩ => ⟨m', h1, h2, h3⟩, fun x H' hy => ?_⟩
    refine turn i H x H' hi s1 hy _ _ (fun hk H4 s4 => ?_) (fun hk H4 s4 => ?_)
    · have hl : ((List.range i).filter keep).length ≤ i := by
        have := List.length_filter_le keep (List.range i)
        rwa [List.length_range] at this
      refine ⟨_, s4 _ _ hx, by rw [List.length_map]; omega, m - 1, by omega, by omega, same_keep (s1.trans s4) hD, ?_⟩
      rw [upd_same, List.range_succ, List.filter_append, List.map_append]
      simp [List.filter, hk]
    · refine ⟨m - 1, by omega, by omega, s1.trans s4, ?_⟩
      rw [s4 _ _ hx, List.range_succ, List.filter_append, List.map_append]
      simp [List.filter, hk]
theorem toBytes_take {row : List Nat} (h : ∀ x ∈ row, x < 256) (n : Nat) : Sound.fromHigh ((Sound.toBytes row).take n) = fromN (row.take n) := by
  rw [from_eq]
  show fromN (bn ((Sound.toBytes row).take n)) = _
  rw [← bn_take, toBytes_bn h]
theorem toBytes_cut {row : List Nat} (h : ∀ x ∈ row, x < 256) (a n : Nat) : bn (((Sound.toBytes row).drop a).take n) = (row.drop a).take n := by
  rw [← bn_take, ← bn_drop, toBytes_bn h]
def frOut (A : Adr) (o : Option Sound.Bytes) (H : Hp) (Q : VK) (E : XK) : Prop := match o with
  | none => ∀ H', Same H H' → E (.ref A.c_Unmade) none H'
  | some m => ∀ D H', H D = none → Same H H' → H' D = some (.lst (vN (bn m))) → Q (.ref D) H'
def spFrR (K : PySem.W.Frag) (A : Adr) : Sp := fun vs H Q E => ∃ (q : Addr) (row : List Nat), vs = [.ref q] ∧ SqL K H q (vN row) ∧ (∀ x ∈ row, x < 256) ∧ row.length ≤ 4098 ∧ frOut A (Sound.frameOf row) H Q E
theorem sc_frame_of_row : FnScope ["row", "behind"] ["row"] (defScope s_frame_of_row) := ⟨rfl, rfl, rfl, by decide +kernel, rfl, by decide +kernel, by decide +kernel⟩
theorem ok_frame_of_row (T : Txt K mg A) : FnOk P w K mg base (CX1 P w) 2 A.f_frame_of_row A.d_frame_of_row ["row"] (spFrR K A) := by
  refine T.F_frame_of_row.okE sc_frame_of_row (fun vs H Q E h => ?_) (fun cdv Ar outer s H vs Q E hr h => ?_)
  · obtain ⟨q, row, rfl, _⟩ := h
    rfl
  · obtain ⟨q, row, rfl, hq, hb, hl, k⟩ := h
    refine ⟨_, pss_cons (ps_set (i := 1) sc_frame_of_row.nd rfl (Or.inl rfl) (pe_op op_add (pe_gi rfl T.g_LENGTH_SIZE) (pe_call (ok_from_octets T) hr rfl T.m_from_octets T.F_from_octets.kp T.b_from_octets .nil pass0 (pa_cons (pe_slice sl_list (pv 0) po_none (po_some (pe_gi rfl T.g_LENGTH_SIZE))) pa_nil))))
      (pss_cons (ps_if (PW.pt (pw_or (pt_not (pt_chain op_lt op_le (pe_gi rfl T.g_LENGTH_SIZE) (pv 1) (pe_callB call_len_seq (by rfl) T.z_len PySem.boot_len (pa_cons (pv 0) pa_nil)))) (pw_or1 (pt_val (pe_callB (cr_anyI rfl) rfl T.z_any (by decide +kernel : bootBuiltins "any" = some (.builtin "any")) (pa_cons (pe_slice sl_list (pv 0) (po_some (pv 1)) po_none) pa_nil)))))) (pss_one (ps_raise rfl rfl T.m_Unmade T.x_Unmade.exc raise1)) pss_nil)
      (pss_one (ps_ret (pe_slice sl_list (pv 0) (po_some (pe_gi rfl T.g_LENGTH_SIZE)) (po_some (pv 1)))))), ?_⟩
    refine ⟨_, rfl, _, rfl, q, _, rfl, hq, fun p1 hp1 => ?_⟩
    rw [show (some (2 : Int)) = some ((2 : Nat) : Int) from rfl, vN_to]
    have ht : ∀ x ∈ row.take 2, x < 256 := fun x hx => hb x (List.mem_of_mem_take hx)
    refine ⟨p1, row.take 2, rfl, SqL.of upd_same, (by rw [List.length_take]; omega), ht, _, _, rfl, rfl, ?_⟩
    have s1 := same_new (o := .lst (vN (row.take 2))) hp1
    generalize upd H p1 (.lst (vN (row.take 2))) = H1 at *
    unfold frOut Sound.frameOf at k
    simp only [toBytes_take hb] at k
    have hlt := fromN_lt ht
    have hn : fromN (row.take 2) < 65536 := by
      have h2 : 256 ^ (row.take 2).length ≤ 256 ^ 2 := Nat.pow_le_pow_right (by decide) (by rw [List.length_take]; omega)
      exact Nat.lt_of_lt_of_le hlt h2
    generalize fromN (row.take 2) = n at *
    dsimp only
    rw [show (2 : Int) + ((n : Nat) : Int) = ((2 + n : Nat) : Int) by omega]
    have bad : ¬ (Sound.mayLong n = true ∧ n + 2 ≤ row.length ∧ ((row.drop (n + 2)).all fun x => x == 0) = true) → ∀ H', Same H H' → E (.ref A.c_Unmade) none H' := fun c H' s' => by
      rw [if_neg c] at k
      exact k H' s'
    have hmay : 1 ≤ n → n + 2 ≤ row.length → Sound.mayLong n = true := fun h1 h2 => by
      unfold Sound.mayLong Sound.LONGEST
      rw [decide_eq_true h1, decide_eq_true (show n ≤ 4096 by omega)]; rfl
    refine ⟨_, rfl, _, _, rfl, rfl, _, rfl, ?_⟩
    by_cases c1 : (2 : Int) < ((2 + n : Nat) : Int)
    · rw [decide_eq_true c1]
      refine iteT ⟨_, rfl, q, _, rfl, .inl (s1.seq hq), _, _, rfl, rfl, _, rfl, ?_⟩
      rw [vN_len]
      by_cases c2 : ((2 + n : Nat) : Int) ≤ ((row.length : Nat) : Int)
      · rw [decide_eq_true c2]
        refine iteF ⟨_, rfl, _, rfl, _, rfl, q, _, rfl, s1.seq hq, fun p2 hp2 => ?_⟩
        rw [vN_from, show 2 + n = n + 2 by omega]
        have s2 := s1.trans (same_new (o := .lst (vN (row.drop (n + 2)))) hp2)
        refine ⟨p2, (row.drop (n + 2)).map fun (x : Nat) => (x : Int), rfl, (by rw [← vN_int]; exact SqL.of upd_same), _, rfl, ?_⟩
        have hany : (((row.drop (n + 2)).map fun (x : Nat) => (x : Int)).any fun z => z != 0) = !((row.drop (n + 2)).all fun x => x == 0) := by
          generalize row.drop (n + 2) = l
          induction l with
          | nil => rfl
          | cons x l ih =>
            rw [List.map_cons, List.any_cons, ih, List.all_cons, Bool.not_and]
            congr 1
            by_cases hx : x = 0
            · subst hx; rfl
            · have h1 : ((x : Int) != 0) = true := by rw [bne_iff_ne]; omega
              have h2 : (x == 0) = false := by rw [beq_eq_false_iff_ne]; exact hx
              rw [h1, h2]; rfl
        rw [hany]
        generalize upd H1 p2 (.lst (vN (row.drop (n + 2)))) = H2 at *
        cases hz : ((row.drop (n + 2)).all fun x => x == 0) with
        | false => exact iteT (bad (fun z => by rw [hz] at z; cases z.2.2) _ s2)
        | true =>
          refine iteF ⟨_, rfl, _, rfl, _, rfl, _, rfl, q, _, rfl, s2.seq hq, fun p3 hp3 => ?_⟩
          rw [if_pos ⟨hmay (by omega) (by omega), by omega, hz⟩] at k
          dsimp only at k
          rw [toBytes_cut hb] at k
          refine k p3 _ (s2.none hp3) (same_keep s2 (s2.none hp3)) ?_
          rw [upd_same, show (some (2 : Int)) = some ((2 : Nat) : Int) from rfl, vN_cut, show n + 2 - 2 = n by omega]
      · rw [decide_eq_false c2]
        exact iteT (iteT (bad (fun z => by have := z.2.1; omega) _ s1))
    · rw [decide_eq_false c1]
      refine iteF ⟨_, rfl, iteT (iteT (bad (fun z => ?_) _ s1))⟩
      have := z.1
      unfold Sound.mayLong at this
      rw [Bool.and_eq_true] at this
      have := of_decide_eq_true this.1
      omega
def allF : List (List Nat) → Option (List Sound.Bytes)
  | [] => some []
  | e :: r => match Sound.frameOf e, allF r with
    | some b, some l => some (b :: l)
    | _, _ => none
theorem allF_cons (e : List Nat) (r : List (List Nat)) : allF (e :: r) = match Sound.frameOf e, allF r with
    | some b, some l => some (b :: l)
    | _, _ => none := rfl
theorem allF_eq : ∀ l : List Sound.Eqn, Sound.allFramesOf l = allF (l.map fun e => e.row)
  | [] => rfl
  | e :: r => by
    unfold Sound.allFramesOf
    rw [List.map_cons]
    unfold allF
    rw [allF_eq r]
    cases Sound.frameOf e.row <;> cases allF (r.map fun e => e.row) <;> rfl
theorem allF_app : ∀ a b : List (List Nat), allF (a ++ b) = (allF a).bind fun x => (allF b).map (x ++ ·)
  | [], b => by
    show allF b = (allF b).map ([] ++ ·)
    cases allF b <;> rfl
  | e :: r, b => by
    rw [List.cons_append, allF_cons, allF_cons, allF_app r b]
    cases Sound.frameOf e with
    | none => rfl
    | some m =>
      cases allF r with
      | none => rfl
      | some l => cases allF b <;> rfl
theorem allF_len : ∀ (a : List (List Nat)) (ms : List Sound.Bytes), allF a = some ms → ms.length = a.length
  | [], ms, h => by cases h; rfl
  | e :: r, ms, h => by
    unfold allF at h
    cases h1 : Sound.frameOf e with
    | none => rw [h1] at h; cases h
    | some m =>
      cases h2 : allF r with
      | none => rw [h1, h2] at h; cases h
      | some l =>
        rw [h1, h2] at h
        cases h
        rw [List.length_cons, List.length_cons, allF_len r l h2]
theorem rowN_nil {r : Nat} (h : 2 ≤ r) : rowN r [] = List.replicate r 0 := by
  unfold rowN
  have e : hiN 2 ([] : List Nat).length = List.replicate 2 0 := by decide
  rw [e, List.append_nil, List.replicate_append_replicate, show 2 + (r - 2 - ([] : List Nat).length) = r by simp; omega]
theorem added_zero {a : List Nat} {n : Nat} (h : a.length = n) : Sound.added a (List.replicate n 0) = a := by
  unfold Sound.added
  refine List.ext_getElem (by simp [h]) fun i h1 h2 => ?_
  rw [List.getElem_zipWith, List.getElem_replicate, Nat.xor_zero]
theorem sum_here {r j : Nat} : ∀ (L : List (Nat × Sound.Bytes)) (acc : List Nat), acc.length = r → (∀ x ∈ L, x.2.length + 2 ≤ r) →
    (L.filter fun x => !x.2.isEmpty).foldl (fun a x => Sound.added a (Sound.scaled (Sound.factor x.1 j) (Sound.rowIn r x.2))) acc = L.foldl (fun a x => Sound.added a (Sound.scaled (Sound.factor x.1 j) (Sound.rowIn r x.2))) acc
  | [], _, _, _ => rfl
  | x :: L, acc, ha, hx => by
    have hx1 := hx x (List.mem_cons_self ..)
    have hl : (Sound.added acc (Sound.scaled (Sound.factor x.1 j) (Sound.rowIn r x.2))).length = r := by
      rw [added_len, Sound.scaled, List.length_map, rowIn_eq hx1, rowN_len (by rw [bn_len]; exact hx1), ha, Nat.min_self]
    rw [List.filter_cons, List.foldl_cons]
    cases e : x.2.isEmpty with
    | false =>
      rw [if_pos (by decide), List.foldl_cons]
      exact sum_here L _ hl fun y hy => hx y (List.mem_cons_of_mem _ hy)
    | true =>
      rw [if_neg (by decide)]
      have e0 : x.2 = [] := List.isEmpty_iff.mp e
      have ez : Sound.added acc (Sound.scaled (Sound.factor x.1 j) (Sound.rowIn r x.2)) = acc := by
        rw [rowIn_eq hx1, e0]
        show Sound.added acc ((rowN r []).map (Sound.mul (Sound.factor x.1 j))) = acc
        rw [rowN_nil (by rw [e0] at hx1; simp at hx1; exact hx1), List.map_replicate, mul_zero, added_zero ha]
      rw [ez]
      exact sum_here L _ ha fun y hy => hx y (List.mem_cons_of_mem _ hy)
theorem numbered_mem {fs : List Sound.Bytes} {x : Nat × Sound.Bytes} (h : x ∈ Sound.numbered fs) : x.2 ∈ fs := by
  unfold Sound.numbered at h
  obtain ⟨y, hy, rfl⟩ := List.mem_map.mp h
  exact List.fst_mem_of_mem_zipIdx hy
def eqOf (fs : List Sound.Bytes) (r : Nat) (p : Sound.Piece) : List Nat := (Sound.lostOf fs).map (fun i => Sound.factor i p.j) ++ Sound.added (bn p.row) (sumN r p.j (fsN fs))
theorem lost_lt {fs : List Sound.Bytes} : ∀ i ∈ Sound.lostOf fs, i < fs.length := fun i hi => by
  rw [lost_range] at hi
  exact List.mem_range.mp (List.mem_filter.mp hi).1
theorem lost_sorted (fs : List Sound.Bytes) : (Sound.lostOf fs).Pairwise (· < ·) := by
  rw [lost_range]
  exact List.pairwise_lt_range.filter _
structure Eqs (fs : List Sound.Bytes) (ps : List Sound.Piece) (r : Nat) : Prop where
  wide : Wide (ps.length + r) (ps.map (eqOf fs r))
  byt : Byt (ps.map (eqOf fs r))
  piv : pivsG Sound.inverse ps.length 0 (ps.map (eqOf fs r)) = true
  new : Sound.anew fs ps = (allF ((stepsG ps.length 0 (ps.map (eqOf fs r))).map (List.drop ps.length))).map (Sound.fill fs)
theorem eqs_ok {g : Nat} {fs : List Sound.Bytes} {ps : List Sound.Piece} {r : Nat} (hf8 : fs.length ≤ 8) (ht : Tog g ps) (hn : ps.length = (Sound.lostOf fs).length) (h1 : 1 ≤ ps.length) (hr : ∀ p ∈ ps, p.row.length = r) (hfr : ∀ b ∈ fs, b.length + 2 ≤ r) : Eqs fs ps r := by
  have hj4 : ∀ p ∈ ps, p.j < 4 := fun p hp => (ht.1 p hp).2.1
  have hsl : ∀ j, (sumN r j (fsN fs)).length = r := fun j => sumN_len fun m hm => by
    obtain ⟨b, hb, rfl⟩ := List.mem_map.mp hm
    rw [bn_len]; exact hfr b hb
  have hml : ∀ p ∈ ps, (Sound.added (bn p.row) (sumN r p.j (fsN fs))).length = r := fun p hp => by rw [added_len, hsl, bn_len, hr p hp, Nat.min_self]
  have hB : Byt (ps.map (eqOf fs r)) := fun row hrow x hx => by
    obtain ⟨p, hp, rfl⟩ := List.mem_map.mp hrow
    unfold eqOf at hx
    rcases List.mem_append.mp hx with hx | hx
    · obtain ⟨i, hi, rfl⟩ := List.mem_map.mp hx
      exact factor_lt (by have := lost_lt i hi; omega) (hj4 p hp)
    · exact added_lt (bn_lt _) (sumN_lt (hj4 p hp) (by unfold fsN; rw [List.length_map]; exact hf8)) x hx
  have hp : pivsG Sound.inverse ps.length 0 (ps.map (eqOf fs r)) = true := by
    rw [hn]
    refine piv_ok (js := ps.map fun p => p.j) (lost_sorted fs) (fun x hx => by have := lost_lt x hx; omega) ?_ (fun x hx => ?_) (by rw [List.length_map]; exact hn) hB ?_
    · rw [List.pairwise_map]
      exact ht.2.imp fun h => h.1
    · obtain ⟨p, hp, rfl⟩ := List.mem_map.mp hx
      exact hj4 p hp
    · rw [List.map_map, List.map_map]
      refine List.map_congr_left fun p hp => ?_
      show (eqOf fs r p).take _ = _
      unfold eqOf
      rw [List.take_left' (by rw [List.length_map])]
      rfl
  refine ⟨fun row hrow => ?_, hB, hp, ?_⟩
  · obtain ⟨p, hp, rfl⟩ := List.mem_map.mp hrow
    unfold eqOf
    rw [List.length_append, List.length_map, hml p hp, hn]
  · obtain ⟨p0, ps', e⟩ := List.exists_cons_of_ne_nil (List.length_pos_iff.mp (show 0 < ps.length by omega))
    have hhd : (ps.headD ⟨0, 0, []⟩).row.length = r := by rw [e]; exact hr p0 (by rw [e]; simp)
    unfold Sound.anew
    simp only [hhd]
    have hne : (Sound.lostOf fs).isEmpty = false := by
      cases e2 : (Sound.lostOf fs) with
      | nil => rw [e2] at hn; simp at hn; rw [hn] at h1; simp at h1
      | cons _ _ => rfl
    have hany : (fs.any fun b => decide (r < b.length + 2)) = false := by
      rw [List.any_eq_false]
      intro b hb
      have := hfr b hb
      simp; omega
    rw [if_neg (by rw [hne]; decide), if_neg (by rw [hany]; decide)]
    have hes : ((ps.take (Sound.lostOf fs).length).map fun p => (⟨(Sound.lostOf fs).map fun i => Sound.factor i p.j, Sound.added (p.row.map UInt8.toNat) (Sound.sumRows r p.j ((Sound.numbered fs).filter fun x => !x.2.isEmpty))⟩ : Sound.Eqn)) = ps.map fun p => (⟨(Sound.lostOf fs).map fun i => Sound.factor i p.j, Sound.added (bn p.row) (sumN r p.j (fsN fs))⟩ : Sound.Eqn) := by
      rw [List.take_of_length_le (by omega)]
      refine List.map_congr_left fun p hp => ?_
      have : Sound.sumRows r p.j ((Sound.numbered fs).filter fun x => !x.2.isEmpty) = sumN r p.j (fsN fs) := by
        rw [← sumRows_eq hfr]
        exact sum_here _ _ (by simp) fun x hx => hfr _ (numbered_mem hx)
      rw [this]; rfl
    rw [hes, ← hn]
    generalize hes' : (ps.map fun p => (⟨(Sound.lostOf fs).map fun i => Sound.factor i p.j, Sound.added (bn p.row) (sumN r p.j (fsN fs))⟩ : Sound.Eqn)) = es
    have hrows : es.map rowE = ps.map (eqOf fs r) := by rw [← hes', List.map_map]; rfl
    have hel : es.length = ps.length := by rw [← hes', List.length_map]
    obtain ⟨out, o1, o2, o3, o4⟩ := solve_eq ps.length ps.length 0 [] es rfl hel (by omega) (by simp) (fun x hx => by
      rw [← hes'] at hx
      obtain ⟨p, hp, rfl⟩ := List.mem_map.mp hx
      rw [List.length_map, hn]) (by rw [List.nil_append, hrows]; exact hp)
    rw [o1]
    dsimp only
    rw [List.nil_append, hrows] at o2
    rw [allF_eq, ← o2, List.map_map]
    congr 2
    refine List.map_congr_left fun x hx => ?_
    show _ = (x.fs ++ x.row).drop _
    rw [List.drop_left' (o3 x hx)]
theorem anew_short {fs : List Sound.Bytes} {ps : List Sound.Piece} {r : Nat} (h0 : (Sound.lostOf fs).isEmpty = false) (hr : (ps.headD ⟨0, 0, []⟩).row.length = r) {b : Sound.Bytes} (hb : b ∈ fs) (hl : r < b.length + 2) : Sound.anew fs ps = none := by
  unfold Sound.anew
  simp only [hr]
  rw [if_neg (by rw [h0]; decide), if_pos]
  rw [List.any_eq_true]
  exact ⟨b, hb, decide_eq_true hl⟩
theorem zip_snoc {α β : Type} {l : List α} {i : Nat} (h : i < l.length) {ms : List β} (hm : ms.length = i) (m : β) : (l.take (i + 1)).zip (ms ++ [m]) = (l.take i).zip ms ++ [(l[i], m)] := by
  rw [List.take_succ, List.getElem?_eq_getElem h, List.zip_append (by rw [List.length_take]; omega)]; rfl
theorem getD_pc {ps : List Sound.Piece} {i : Nat} (h : i < ps.length) : ps.getD i dPc = ps[i] := by
  rw [List.getD_eq_getElem?_getD, List.getElem?_eq_getElem h]; rfl
theorem eqs_get {fs : List Sound.Bytes} {ps : List Sound.Piece} {r i : Nat} (h : i < ps.length) : (ps.map (eqOf fs r)).getD i [] = eqOf fs r (ps.getD i dPc) := by
  rw [List.getD_eq_getElem?_getD, List.getElem?_map, List.getElem?_eq_getElem h, getD_pc h]; rfl
theorem fsN_len (fs : List Sound.Bytes) : (fsN fs).length = fs.length := by unfold fsN; rw [List.length_map]
theorem hide_keep {W : Addr} {H H' : Hp} (hW : H W = none) (s : Same H H') : Same H (hide W H') := fun b o e => by rw [hide_ne (ne_of_none e hW)]; exact s b o e
def madeOut (K : PySem.W.Frag) (A : Adr) (o : Option (List Sound.Bytes)) (H : Hp) (Q : VK) (E : XK) : Prop := match o with
  | none => ∀ H', Same H H' → E (.ref A.c_Unmade) none H'
  | some l => ∀ D H', H D = none → Same H H' → RowsC H' D (fsN l) → Q (.ref D) H'
def spMade (K : PySem.W.Frag) (A : Adr) : Sp := fun vs H Q E => ∃ (f q : Addr) (g : Nat) (fs : List Sound.Bytes) (ps : List Sound.Piece), vs = [.ref f, .ref q] ∧ RowsC H f (fsN fs) ∧ PcsI K A.c_Piece H q ps ∧ ((1 ≤ fs.length ∧ fs.length ≤ 8) ∧ ∀ b ∈ fs, b.length ≤ 4096) ∧
  (Tog g ps ∧ ps.length = (Sound.lostOf fs).length ∧ 1 ≤ ps.length) ∧ madeOut K A (Sound.anew fs ps) H Q E
theorem sc_made_anew : FnScope ["frames", "pieces", "row_size", "lost", "equations", "piece", "missing", "whole", "i", "row", "one"] ["frames", "pieces"] (defScope s_made_anew) := ⟨rfl, rfl, rfl, by decide +kernel, rfl, by decide +kernel, by decide +kernel⟩
theorem ok_made_anew (T : Txt K mg A) : FnOk P w K mg base (CX1 P w) 5 A.f_made_anew A.d_made_anew ["frames", "pieces"] (spMade K A) := by
  refine T.F_made_anew.okE sc_made_anew (fun vs H Q E h => ?_) (fun cdv Ar outer s H vs Q E hr h => ?_)
  · obtain ⟨f, q, g, fs, ps, rfl, _⟩ := h
    rfl
  · obtain ⟨f, q, g, fs, ps, rfl, hf, hq, ⟨⟨hf1, hf8⟩, hf4⟩, ⟨ht, hn, h1⟩, k⟩ := h
    have hr1' : Room 1 _ := hr.mono (by decide)
    have hr2' : Room 2 _ := hr.mono (by decide)
    have hr3' : Room 3 _ := hr.mono (by decide)
    refine ⟨_, pss_cons (ps_set (i := 2) sc_made_anew.nd rfl (Or.inl rfl) (pe_callB call_len_seq (by rfl) T.z_len PySem.boot_len (pa_cons (pe_fld (pe_ix ix_list (pv 1) pe_int (fun _ _ => rfl)) rfl) pa_nil)))
      (pss_cons (ps_if (pt_cmpR op_gt (pe_call (ok_longest_row T) hr1' rfl T.m_longest_row T.F_longest_row.kp T.b_longest_row .nil pass0 (pa_cons (pv 0) pa_nil)) (pv 2) (nomark _)) (pss_one (ps_raise rfl rfl T.m_Unmade T.x_Unmade.exc raise1)) pss_nil)
      (pss_cons (ps_setLc (i := 3) (own := [("i", 8), ("one", 10)]) rfl sc_made_anew.nd rfl rfl rfl (pi_enum rfl T.z_enumerate (pa_cons (pv 0) pa_nil)) (blkOk_by (by kernel_rfl))
        (fun _ _ _ _ _ => pgtK (K := K) (n := 2) rfl rfl (pgs_cons (pg_name (i := 8) sc_made_anew.nd rfl (Or.inl rfl)) (pgs_cons (pg_name (i := 10) sc_made_anew.nd rfl (Or.inl rfl)) pgs_nil)))
        (fun _ _ _ _ _ => pts_one (pt_cmpR op_eq (pe_callB (lenK (K := K) rfl) (by rfl) T.z_len PySem.boot_len (pa_cons (pv 10) pa_nil)) pe_int (nomark _))) (fun _ _ _ _ _ => pv 8))
      (pss_cons (ps_set (i := 4) sc_made_anew.nd rfl (Or.inl rfl) (pe_lst pa_nil))
      (pss_cons (ps_for PassesOwn.leaving rfl (pi_list (pv 1)) (pg_name (i := 5) sc_made_anew.nd rfl (Or.inr rfl))
        (pss_cons (ps_set (i := 6) sc_made_anew.nd rfl (Or.inl rfl) (pe_call (ok_added T) hr1' rfl T.m_added T.F_added.kp T.b_added .nil pass0 (pa_cons (pe_fld (pv 5) rfl) (pa_cons (pe_call (ok_row_sum T) hr rfl T.m_row_sum T.F_row_sum.kp T.b_row_sum .nil pass0 (pa_cons (pe_fld (pv 5) rfl) (pa_cons (pv 2) (pa_cons (pv 0) pa_nil)))) pa_nil))))
        (pss_one (ps_expr (pe_bm PySem.F.plainAttrs_list PySem.F.slot_list_append PySem.F.type_list_append mt_append (pv 4) (pa_cons (pe_op op_cat (pe_lc (own := [("i", 8)]) rfl sc_made_anew.nd (pi_list (pv 3)) (blkOk_by (by kernel_rfl)) (fun _ _ _ _ _ => pg_name (i := 8) sc_made_anew.nd rfl (Or.inl rfl)) (fun _ _ _ _ _ => pts_nil)
          (fun _ _ _ _ _ => pe_call (ok_factor_of T) hr3' rfl T.m_factor_of T.F_factor_of.kp T.b_factor_of .nil pass0 (pa_cons (pv 8) (pa_cons (pfldK (K := K) rfl (pv 5) rfl) pa_nil)))) (pv 6)) pa_nil))))))
      (pss_cons (ps_set (i := 7) sc_made_anew.nd rfl (Or.inl rfl) (pe_callTy call_list_of rfl T.z_list (by decide +kernel : bootBuiltins "list" = some (.type "list")) (pa_cons (pv 0) pa_nil)))
      (pss_cons (ps_for PassesOwn.leaving rfl (pi_zip rfl T.z_zip (pa_cons (pv 3) (pa_cons (pe_call (ok_solved_field T) hr3' rfl T.m_solved_field T.F_solved_field.kp T.b_solved_field .nil pass0 (pa_cons (pv 4) pa_nil)) pa_nil)))
          (pgtK (K := K) (n := 2) rfl rfl (pgs_cons (pg_name (i := 8) sc_made_anew.nd rfl (Or.inl rfl)) (pgs_cons (pg_name (i := 9) sc_made_anew.nd rfl (Or.inl rfl)) pgs_nil)))
          (pss_one (ps_asg (pe_call (ok_frame_of_row T) hr2' rfl T.m_frame_of_row T.F_frame_of_row.kp T.b_frame_of_row .nil passes1 (pa_cons (pv 9) pa_nil)) (pg_sub (pv 7) (pv 8) set_list))))
      (pss_one (ps_ret (pv 7))))))))), ?_⟩
    obtain ⟨pa, hq1, hq2, hq3⟩ := id hq
    obtain ⟨fa, hfa1, hfa2, hfa3⟩ := id hf
    rw [fsN_len] at hfa2
    obtain ⟨a0, e0, e0'⟩ := ref_get (as := pa) (i := 0) (by omega)
    obtain ⟨d0, r0, hp1, hp2⟩ := hq3 0 a0 e0'
    generalize hr0 : (ps.getD 0 dPc).row.length = r
    have hrall : ∀ p ∈ ps, p.row.length = r := fun p hp => by
      obtain ⟨p0, ps', e⟩ := List.exists_cons_of_ne_nil (List.length_pos_iff.mp (show 0 < ps.length by omega))
      have h2 := ht.2
      rw [e, List.pairwise_cons] at h2
      have : (ps.getD 0 dPc) = p0 := by rw [e]; rfl
      rw [this] at hr0
      rw [e] at hp
      rcases List.mem_cons.mp hp with rfl | hp
      · exact hr0
      · rw [← (h2.1 p hp).2]; exact hr0
    have hmem0 : ps.getD 0 dPc ∈ ps := by rw [getD_pc (by omega)]; exact List.getElem_mem _
    have hrb : 3 ≤ r ∧ r ≤ 4098 := by rw [← hr0]; exact (ht.1 _ hmem0).2.2
    have hhd : (ps.headD ⟨0, 0, []⟩).row.length = r := by
      rw [← hr0]
      cases ps with
      | nil => simp at h1
      | cons p0 ps' => rfl
    have hlne : (Sound.lostOf fs).isEmpty = false := by
      cases e2 : (Sound.lostOf fs) with
      | nil => rw [e2] at hn; simp at hn; rw [hn] at h1; simp at h1
      | cons _ _ => rfl
    refine ⟨_, rfl, q, _, _, _, rfl, rfl, hq1, atI_nat (j := 0) e0, a0, A.c_Piece, d0, _, _, rfl, hp1, T.l_Piece, T.n_Piece_row, rfl, r0, _, rfl, .inl (SqL.of hp2), ?_⟩
    rw [vN_len, bn_len, hr0]
    refine ⟨_, rfl, f, fsN fs, rfl, hf.n, ⟨by rw [fsN_len]; exact hf1, by rw [fsN_len]; omega⟩, fun H1 s1 => ?_⟩
    refine ⟨_, rfl, _, _, rfl, rfl, _, rfl, ?_⟩
    refine ite2 (fun c => ?_) fun c => ?_
    · have c : ((r : Nat) : Int) < ((longN (fsN fs) : Nat) : Int) := of_decide_eq_true c
      obtain ⟨b, hb, hbl⟩ : ∃ b ∈ fs, r < b.length + 2 := by
        refine Classical.byContradiction fun z => ?_
        have := long_le (M := fsN fs) (b := r - 2) fun m hm => by
          obtain ⟨b, hb, rfl⟩ := List.mem_map.mp hm
          rw [bn_len]
          have : ¬ r < b.length + 2 := fun y => z ⟨b, hb, y⟩
          omega
        omega
      rw [anew_short hlne hhd hb hbl] at k
      exact k H1 s1
    have c : ¬ ((r : Nat) : Int) < ((longN (fsN fs) : Nat) : Int) := fun z => c (decide_eq_true z)
    have hfr : ∀ b ∈ fs, b.length + 2 ≤ r := fun b hb => by
      have := long_ge (M := fsN fs) (List.mem_map_of_mem hb)
      rw [bn_len] at this
      omega
    have EQ := eqs_ok hf8 ht hn h1 hrall hfr
    rw [EQ.new] at k
    have hfr2 : ∀ m ∈ fsN fs, m.length + 2 ≤ r ∧ ∀ x ∈ m, x < 256 := fun m hm => by
      obtain ⟨b, hb, rfl⟩ := List.mem_map.mp hm
      exact ⟨by rw [bn_len]; exact hfr b hb, bn_lt b⟩
    have hsl : ∀ j, (sumN r j (fsN fs)).length = r := fun j => sumN_len fun m hm => (hfr2 m hm).1
    refine ⟨_, rfl, f, _, rfl, s1.seq (SqL.of hfa1), fun D hD => ?_⟩
    refine lcf_val (J := Ite K f) hD fs.length (by rw [sizeLine_eq]; omega) (fun i => (fs.getD i []).length == 0) (fun i => .int ((i : Nat) : Int)) (fun i Hh hi t1 => ?_) (fun Hh t1 => ⟨_, t1.seq (s1.seq (SqL.of hfa1)), by rw [List.length_map]; omega⟩) ?_ ?_
    · obtain ⟨b, hb1, _⟩ := ref_get (as := fa) (i := i) (by omega)
      exact ⟨_, _, t1.seq (s1.seq (SqL.of hfa1)), hb1⟩
    · rintro i Hh z H' hi t1 ⟨T1, x1, rfl, hT1, rfl, hz⟩ C N hC hN
      obtain ⟨b, rfl, hb⟩ := ref_get' (hz _ (t1.seq (s1.seq (SqL.of hfa1))))
      have sT := same_new (o := .tup [.int (i : Nat), .ref b]) hT1
      have hrb' := hfa3 i b hb
      refine ⟨T1, _, rfl, SqT.of upd_same, rfl, _, _, rfl, _, _, rfl, rfl, rfl, _, rfl, b, _, rfl, .inl (sT.seq (t1.seq (s1.seq (SqL.of hrb')))), rfl, _, rfl, ?_⟩
      rw [vN_len, fsN_get, bn_len]
      by_cases cz : (fs.getD i []).length = 0
      · rw [decide_eq_true (by rw [cz]; rfl)]
        exact iteT ⟨_, rfl, hC (by rw [cz]; rfl) _ sT⟩
      · rw [decide_eq_false (fun z => cz (by have := V.int.inj z; omega))]
        exact iteF (hN (by rw [beq_eq_false_iff_ne]; exact cz) _ sT)
    · intro H2 s2 hx2
      have elost : ((List.range fs.length).filter fun i => (fs.getD i []).length == 0).map (fun i => V.int ((i : Nat) : Int)) = vN (Sound.lostOf fs) := by rw [lost_range]; rfl
      rw [elost] at hx2
      have s12 := s1.trans s2
      refine ⟨by rw [sizeLine_eq]; show 0 ≤ _; omega, fun F hF => ?_⟩
      have hF0 : H F = none := s12.none hF
      have hDF : D ≠ F := ne_of_none hx2 hF
      refine ⟨_, rfl, q, rfl, ⟨_, (same_new hF).seq (s12.seq hq1)⟩, ?_⟩
      refine for_list (K := K) (a := q) (xs := pa.map V.ref) (fun i σ H' => ∃ (es : List Addr) (v5 v6 : Option V), Same H H' ∧ H' D = some (.lst (vN (Sound.lostOf fs))) ∧ H' F = some (.lst (es.map V.ref)) ∧ es.length = i ∧ (∀ (k : Nat) (a : Addr), es[k]? = some a → SqL K (hide F H') a (vN (eqOf fs r (ps.getD k dPc)))) ∧
          σ = [some (.ref f), some (.ref q), some (.int r), some (.ref D), some (.ref F), v5, v6, none, none, none, none])
        ⟨[], none, none, same_keep s12 hF0, (by rw [upd_ne hDF]; exact hx2), upd_same, rfl, fun k a e => (by simp at e), rfl⟩ (fun i σ H' _ ⟨es, v5, v6, s', _⟩ => s'.seq hq1) ?_ ?_
      · rintro i x σ H3 hi ⟨es, v5, v6, s3, hD3, hF3, hes, hesr, rfl⟩
        obtain ⟨b, rfl, hb⟩ := ref_get' hi
        have hil : i < ps.length := by
          have := (List.getElem?_eq_some_iff.mp hb).1
          omega
        obtain ⟨db, rb, hb1, hb2⟩ := (hq3 i b hb).same s3
        have hpm : ps.getD i dPc ∈ ps := by rw [getD_pc hil]; exact List.getElem_mem _
        have hj4 := (ht.1 _ hpm).2.1
        have hrp := hrall _ hpm
        generalize hpd : ps.getD i dPc = p at *
        refine ⟨_, rfl, b, A.c_Piece, db, _, _, rfl, hb1, T.l_Piece, T.n_Piece_row, rfl, _, rfl, b, A.c_Piece, db, _, _, rfl, hb1, T.l_Piece, T.n_Piece_j, rfl, _, rfl, _, rfl, p.j, r, f, fsN fs, rfl, (hf.same s3).n, ⟨hj4, by omega, by rw [fsN_len]; exact hf8⟩, hfr2, fun D4 H4 hD4 s4 hx4 => ?_⟩
        refine ⟨rb, D4, bn p.row, sumN r p.j (fsN fs), rfl, s4.seq (SqL.of hb2), SqL.of hx4, (by rw [bn_len, hsl, hrp]), (by rw [bn_len, hrp]; omega), fun D5 H5 hD5 s5 hx5 => ?_⟩
        have s35 := s4.trans s5
        have hF5 := s35 _ _ hF3
        have hD5' := s35 _ _ hD3
        refine ⟨_, rfl, .inl ⟨rfl, _, SqL.of hF5⟩, _, rfl, D, rfl, ⟨_, SqL.of hD5'⟩, fun D6 hD6 => ?_⟩
        refine lc_val (J := Itl K D) hD6 (Sound.lostOf fs).length (by have : (Sound.lostOf fs).length ≤ 8 := (by rw [← hn]; have := arrs_le (l := ps.map fun p => p.j) (by rw [List.pairwise_map]; exact ht.2.imp fun h => h.1) (fun x hx => by obtain ⟨p, hp, rfl⟩ := List.mem_map.mp hx; exact (ht.1 p hp).2.1); rw [List.length_map] at this; omega); rw [sizeLine_eq]; omega) (fun t => .int ((Sound.factor ((Sound.lostOf fs).getD t 0) p.j : Nat) : Int)) (fun t Hh hi t1 => ⟨_, _, t1.seq (SqL.of hD5'), vN_get hi⟩) (fun Hh t1 => ⟨_, t1.seq (SqL.of hD5'), by rw [vN_len]; exact Nat.le_refl _⟩) ?_ ?_
        · rintro t Hh z H' hti t1 ⟨rfl, hz⟩ C hC
          obtain ⟨rfl, _⟩ := vN_get' (hz _ (t1.seq (SqL.of hD5')))
          have hlt : (Sound.lostOf fs).getD t 0 < 8 := by
            have := lost_lt (fs := fs) ((Sound.lostOf fs).getD t 0) (by rw [getD_at hti]; exact List.getElem_mem hti)
            omega
          exact ⟨rfl, _, rfl, _, rfl, b, A.c_Piece, db, _, _, rfl, t1 _ _ (s35 _ _ hb1), T.l_Piece, T.n_Piece_j, rfl, _, p.j, rfl, ⟨hlt, hj4⟩, fun H'' s'' => hC _ s''⟩
        · intro H6 s6 hx6
          rw [map_getD (f := fun i => Sound.factor i p.j)] at hx6
          have hx56 := s6 _ _ hx5
          have hll : (Sound.lostOf fs).length ≤ 8 := by
            have := List.length_filter_le (fun i => (fs.getD i []).length == 0) (List.range fs.length)
            rw [lost_range, List.length_range] at *
            omega
          refine ⟨_, rfl, D6, D5, _, _, rfl, rfl, hx6, hx56, (by rw [vN_len, vN_len, List.length_map, added_len, bn_len, hsl, hrp, sizeLine_eq]; omega), fun p7 hp7 => ?_⟩
          rw [← vN_app]
          have eeq : (Sound.lostOf fs).map (fun i => Sound.factor i p.j) ++ Sound.added (bn p.row) (sumN r p.j (fsN fs)) = eqOf fs r p := rfl
          rw [eeq]
          have s36 := s35.trans s6
          have s37 := s36.trans (same_new (o := .lst (vN (eqOf fs r p))) hp7)
          have hF7 : upd H6 p7 (.lst (vN (eqOf fs r p))) F = some (.lst (es.map V.ref)) := s37 _ _ hF3
          have hD7 := s37 _ _ hD3
          have hpF : p7 ≠ F := fun z => by rw [z, s36 _ _ hF3] at hp7; cases hp7
          refine ⟨F, _, _, rfl, rfl, hF7, (by rw [List.length_map, sizeLine_eq]; omega), es ++ [p7], _, _, same_keep (s3.trans s37) hF0, (by rw [upd_ne hDF]; exact hD7), (by rw [upd_same]; simp), (by simp [hes]), ?_, rfl⟩
          intro kk a e
          rw [hide_upd]
          by_cases hk : kk < es.length
          · rw [List.getElem?_append_left hk] at e
            exact (hide_mono s37).seq (hesr kk a e)
          · rw [List.getElem?_append_right (by omega)] at e
            have hk0 : kk - es.length = 0 := by
              have := (List.getElem?_eq_some_iff.mp e).1
              simp at this; omega
            rw [hk0] at e
            obtain rfl : p7 = a := Option.some.inj e
            rw [show kk = i by omega, hpd]
            exact SqL.of (by rw [hide_ne hpF, upd_same])
      · rintro σ H3 ⟨es, v5, v6, s3, hD3, hF3, hes, hesr, rfl⟩
        rw [List.length_map, hq2] at hes
        refine ⟨_, rfl, f, _, rfl, .inl (s3.seq (SqL.of hfa1)), fun W hW => ?_⟩
        have hW0 : H W = none := s3.none hW
        have sW := same_new (o := .lst (fa.map V.ref)) hW
        refine ⟨_, rfl, _, rfl, F, ps.map (eqOf fs r), ps.length + r, rfl, ⟨es, SqL.of (sW _ _ hF3), by rw [List.length_map]; exact hes, fun k a e => ?_⟩, ⟨EQ.wide, by rw [List.length_map]; omega, ?_⟩, EQ.byt, by rw [List.length_map]; exact EQ.piv, fun D4 H4 hD4 s4 hR4 => ?_⟩
        · have hk : k < ps.length := by
            have := (List.getElem?_eq_some_iff.mp e).1
            omega
          rw [eqs_get hk]
          exact sW.seq ((hide_same _ _).seq (hesr k a e))
        · have := arrs_le (l := ps.map fun p => p.j) (by rw [List.pairwise_map]; exact ht.2.imp fun h => h.1) (fun x hx => by obtain ⟨p, hp, rfl⟩ := List.mem_map.mp hx; exact (ht.1 p hp).2.1)
          rw [List.length_map] at this
          omega
        rw [List.length_map] at hR4
        have hWid := steps_wide ps.length 0 _ EQ.wide (by rw [List.length_map]; omega)
        have hByt := steps_byt ps.length 0 _ EQ.byt
        have hRl := stepsG_len ps.length 0 (ps.map (eqOf fs r))
        rw [List.length_map] at hRl
        have hRrow : ∀ row ∈ (stepsG ps.length 0 (ps.map (eqOf fs r))).map (List.drop ps.length), (∀ x ∈ row, x < 256) ∧ row.length ≤ 4098 := fun row hrow => by
          obtain ⟨y, hy, rfl⟩ := List.mem_map.mp hrow
          refine ⟨fun x hx => hByt y hy x (List.mem_of_mem_drop hx), ?_⟩
          rw [List.length_drop, hWid y hy]; omega
        have hRl2 : ((stepsG ps.length 0 (ps.map (eqOf fs r))).map (List.drop ps.length)).length = ps.length := by rw [List.length_map]; exact hRl
        generalize (stepsG ps.length 0 (ps.map (eqOf fs r))).map (List.drop ps.length) = R at *
        have sW4 := sW.trans s4
        have hWD : W ≠ D := fun z => by rw [z, hD3] at hW; cases hW
        have snh : Same (newOf (upd H3 W (.lst (fa.map V.ref))) H4) (hide W H4) := fun b o e => by
          obtain ⟨z1, z2⟩ := newOf_in e
          have : b ≠ W := fun z => by rw [z, upd_same] at z1; cases z1
          rw [hide_ne this]; exact z2
        obtain ⟨ra, hra1, hra2, hra3⟩ := hR4.same snh
        have hDh : SqL K (hide W H4) D (vN (Sound.lostOf fs)) := SqL.of (by rw [hide_ne (Ne.symm hWD)]; exact sW4 _ _ hD3)
        refine ⟨D, D4, _, _, rfl, (hide_same _ _).seq hDh, (hide_same _ _).seq hra1, ?_⟩
        refine for_gen (J := Itz K D D4) ps.length (fun i σ H' => ∃ (ws : List Addr) (ms : List Sound.Bytes) (v8 v9 : Option V), Same (hide W H4) (hide W H') ∧ allF (R.take i) = some ms ∧ H' W = some (.lst (ws.map V.ref)) ∧ ws.length = fs.length ∧ (setAll fs ((Sound.lostOf fs).take i) ms).length = fs.length ∧ (∀ (k : Nat) (a : Addr), ws[k]? = some a → hide W H' a = some (.lst (vN (bn ((setAll fs ((Sound.lostOf fs).take i) ms).getD k []))))) ∧
            σ = [some (.ref f), some (.ref q), some (.int r), some (.ref D), some (.ref F), v5, v6, some (.ref W), v8, v9, none])
          ⟨fa, [], none, none, Same.refl _, rfl, s4 _ _ upd_same, hfa2, rfl, fun k a e => ?_, rfl⟩ ?_ ?_ ?_ ?_
        · have : H a = some (.lst (vN (bn (fs.getD k [])))) := by rw [← fsN_get]; exact hfa3 k a e
          exact hide_keep hW0 (s3.trans sW4) _ _ this
        · rintro i σ H5 hi ⟨ws, ms, v8, v9, s5, hms, hW5, hwl, hsl2, hws, rfl⟩
          obtain ⟨a, ha1, ha2⟩ := ref_get (as := ra) (i := i) (by omega)
          exact ⟨_, _, _, _, (hide_same W H5).seq (s5.seq hDh), (hide_same W H5).seq (s5.seq hra1), vN_get (by omega), ha1⟩
        · rintro σ H5 ⟨ws, ms, v8, v9, s5, hms, hW5, hwl, hsl2, hws, rfl⟩
          exact ⟨_, _, (hide_same W H5).seq (s5.seq hDh), (hide_same W H5).seq (s5.seq hra1), .inl (by rw [vN_len]; omega)⟩
        · rintro i σ H5 x H5' hi ⟨ws, ms, v8, v9, s5, hms, hW5, hwl, hsl2, hws, rfl⟩ ⟨t, x1, y1, rfl, htn, rfl, hx, hy⟩
          obtain ⟨rfl, hil⟩ := vN_get' (hx _ ((hide_same W H5).seq (s5.seq hDh)))
          obtain ⟨a, rfl, ha⟩ := ref_get' (hy _ ((hide_same W H5).seq (s5.seq hra1)))
          have hiR : i < R.length := by omega
          have hrow := hra3 i a ha
          rw [getD_m hiR] at hrow
          obtain ⟨hrb1, hrb2⟩ := hRrow R[i] (List.getElem_mem hiR)
          have sT := same_new (o := .tup [.int ((Sound.lostOf fs).getD i 0 : Nat), .ref a]) htn
          have hRe : R = R.take i ++ (R[i] :: R.drop (i + 1)) := by rw [← List.drop_eq_getElem_cons hiR, List.take_append_drop]
          refine ⟨t, _, rfl, SqT.of upd_same, rfl, _, _, rfl, _, _, rfl, rfl, ?_⟩
          refine ⟨_, rfl, a, R[i], rfl, sT.seq ((hide_same W H5).seq (s5.seq hrow)), hrb1, hrb2, ?_⟩
          have sH : Same H (hide W H4) := hide_keep hW0 (s3.trans sW4)
          cases hfo : Sound.frameOf R[i] with
          | none =>
            intro H6 s6
            have : allF R = none := by
              rw [hRe, allF_app, hms, allF_cons, hfo]; rfl
            rw [this] at k
            exact k H6 (((sH.trans s5).trans (hide_same _ _)).trans (sT.trans s6))
          | some m =>
            intro D6 H6 hD6 s6 hx6
            have s56 := sT.trans s6
            have hW6 := s56 _ _ hW5
            have hjl : (Sound.lostOf fs).getD i 0 < fs.length := by
              rw [getD_at hil]
              exact lost_lt _ (List.getElem_mem hil)
            have hDW6 : D6 ≠ W := fun z => by
              rw [z, sT _ _ hW5] at hD6; cases hD6
            refine ⟨_, rfl, _, rfl, W, _, _, (Sound.lostOf fs).getD i 0, rfl, rfl, hW6, ?_, ?_⟩
            · unfold ixN
              rw [if_pos (by omega), if_pos (by rw [List.length_map]; omega), Int.toNat_natCast]
            have hmsl := allF_len _ _ hms
            rw [List.length_take, Nat.min_eq_left (by omega)] at hmsl
            have hset : setAll fs ((Sound.lostOf fs).take (i + 1)) (ms ++ [m]) = (setAll fs ((Sound.lostOf fs).take i) ms).set ((Sound.lostOf fs).getD i 0) m := by
              unfold setAll
              rw [zip_snoc hil hmsl, List.foldl_append, getD_at hil]; rfl
            refine ⟨ws.set ((Sound.lostOf fs).getD i 0) D6, ms ++ [m], _, _, ?_, ?_, ?_, ?_, ?_, ?_, rfl⟩
            · rw [hide_upd]
              exact s5.trans (hide_mono s56)
            · rw [List.take_succ, List.getElem?_eq_getElem hiR, allF_app, hms]
              show (allF [R[i]]).map (ms ++ ·) = _
              rw [allF_cons, hfo]; rfl
            · rw [upd_same, List.map_set]
            · rw [List.length_set]; exact hwl
            · rw [hset, List.length_set]; exact hsl2
            · intro kk b e
              rw [hide_upd, hset]
              by_cases hk : kk = (Sound.lostOf fs).getD i 0
              · rw [hk, List.getElem?_set_self (by omega)] at e
                obtain rfl : D6 = b := Option.some.inj e
                rw [hk, List.getD_eq_getElem?_getD, List.getElem?_set_self (by omega)]
                rw [hide_ne hDW6]; exact hx6
              · rw [List.getElem?_set_ne (Ne.symm hk)] at e
                rw [List.getD_eq_getElem?_getD, List.getElem?_set_ne (Ne.symm hk), ← List.getD_eq_getElem?_getD]
                exact hide_mono s56 _ _ (hws kk b e)
        · rintro σ H5 ⟨ws, ms, v8, v9, s5, hms, hW5, hwl, hsl2, hws, rfl⟩
          rw [List.take_of_length_le (by omega)] at hms
          rw [List.take_of_length_le (by omega), fill_eq] at hws hsl2
          rw [hms] at k
          have sH : Same H (hide W H4) := hide_keep hW0 (s3.trans sW4)
          refine ⟨_, rfl, k W H5 hW0 ((sH.trans s5).trans (hide_same _ _)) ⟨ws, hW5, by rw [fsN_len]; omega, fun kk a e => ?_⟩⟩
          rw [fsN_get]
          exact hide_same _ _ _ _ (hws kk a e)
theorem cut_to {xs : List V} (n : Nat) : cutV xs none (some (n : Int)) = xs.take n := by
  unfold cutV HT.sIx
  dsimp only
  rw [if_neg (by omega), Int.toNat_natCast, List.drop_zero, Nat.sub_zero, List.take_eq_take_iff]; omega
def flatR (l : List Sound.Bytes) : List Nat := bn (l.flatMap Sound.rowOf)
theorem flatR_snoc {l : List Sound.Bytes} {i : Nat} (h : i < l.length) : flatR (l.take (i + 1)) = flatR (l.take i) ++ hiN 2 (l.getD i []).length ++ bn (l.getD i []) := by
  unfold flatR
  rw [List.take_succ, List.getElem?_eq_getElem h, List.flatMap_append, bn_app, List.append_assoc]
  congr 1
  have e : l.getD i [] = l[i] := by rw [List.getD_eq_getElem?_getD, List.getElem?_eq_getElem h]; rfl
  rw [e]
  show bn ([l[i]].flatMap Sound.rowOf) = _
  rw [List.flatMap_cons, List.flatMap_nil, List.append_nil]
  unfold Sound.rowOf
  rw [bn_app, bn_high]
theorem flatR_len {b : Nat} : ∀ (l : List Sound.Bytes), (∀ x ∈ l, x.length ≤ b) → (flatR l).length ≤ l.length * (b + 2)
  | [], _ => by simp [flatR, bn]
  | x :: l, h => by
    have ih := flatR_len l fun y hy => h y (List.mem_cons_of_mem _ hy)
    have hx := h x (List.mem_cons_self ..)
    unfold flatR at ih ⊢
    rw [List.flatMap_cons, bn_app, List.length_append, List.length_cons, Nat.succ_mul]
    unfold Sound.rowOf at *
    rw [bn_app, List.length_append, bn_high, hiN_len, bn_len]
    omega
def spWRows : Sp := fun vs H Q _ => ∃ (f : Addr) (l : List Sound.Bytes), vs = [.ref f] ∧ RowsC H f (fsN l) ∧ (l.length ≤ 8 ∧ ∀ b ∈ l, b.length ≤ 4096) ∧ NewN H Q (flatR l)
theorem sc_write_rows : FnScope ["frames", "rows", "one"] ["frames"] (defScope s_write_rows) := ⟨rfl, rfl, rfl, by decide +kernel, rfl, by decide +kernel, by decide +kernel⟩
theorem ok_write_rows (T : Txt K mg A) : FnOk P w K mg base CX0 2 A.f_write_rows A.d_write_rows ["frames"] spWRows := by
  refine T.F_write_rows.ok sc_write_rows (fun vs H Q E h => ?_) (fun cdv Ar outer s H vs Q E hr h => ?_)
  · obtain ⟨f, l, rfl, _⟩ := h
    rfl
  · obtain ⟨f, l, rfl, hf, ⟨hl8, hl4⟩, k⟩ := h
    have hr1' : Room 1 _ := hr.mono (by decide)
    refine ⟨_, pss_cons (ps_set (i := 1) sc_write_rows.nd rfl (Or.inl rfl) (pe_lst pa_nil))
      (pss_cons (ps_for PassesOwn.never rfl (pi_list (pv 0)) (pg_name (i := 2) sc_write_rows.nd rfl (Or.inl rfl))
        (pss_cons (ps_expr (pe_bm PySem.F.plainAttrs_list PySem.F.slot_list_extend PySem.F.type_list_extend mt_extend (pv 1) (pa_cons (pe_call (ok_to_octets T) hr1' rfl T.m_to_octets T.F_to_octets.kp T.b_to_octets .nil pass0 (pa_cons (pe_gi rfl T.g_LENGTH_SIZE) (pa_cons (pe_callB call_len_seq (by rfl) T.z_len PySem.boot_len (pa_cons (pv 2) pa_nil)) pa_nil))) pa_nil)))
        (pss_one (ps_expr (pe_bm PySem.F.plainAttrs_list PySem.F.slot_list_extend PySem.F.type_list_extend mt_extend (pv 1) (pa_cons (pv 2) pa_nil))))))
      (pss_one (ps_ret (pv 1)))), ?_⟩
    obtain ⟨fa, hfa1, hfa2, hfa3⟩ := id hf
    rw [fsN_len] at hfa2
    refine ⟨by rw [sizeLine_eq]; show 0 ≤ _; omega, fun R hR => ?_⟩
    have sR := same_new (o := .lst []) hR
    refine ⟨_, rfl, f, rfl, ⟨_, sR.seq (SqL.of hfa1)⟩, ?_⟩
    refine for_list (K := K) (a := f) (xs := fa.map V.ref) (fun i σ H' => ∃ v2 : Option V, Same H H' ∧ H' R = some (.lst (vN (flatR (l.take i)))) ∧ σ = [some (.ref f), some (.ref R), v2]) ⟨none, sR, upd_same, rfl⟩ (fun i σ H' _ ⟨v2, s', _⟩ => s'.seq (SqL.of hfa1)) ?_ ?_
    · rintro i x σ H1 hi ⟨v2, s1, hx, rfl⟩
      obtain ⟨a, rfl, ha⟩ := ref_get' hi
      have hil : i < l.length := by
        have := (List.getElem?_eq_some_iff.mp ha).1
        omega
      have ha1 := hfa3 i a ha
      rw [fsN_get] at ha1
      have hbl : (l.getD i []).length ≤ 4096 := hl4 _ (by rw [List.getD_eq_getElem?_getD, List.getElem?_eq_getElem hil]; exact List.getElem_mem hil)
      have hfl := flatR_len (b := 4096) (l.take i) fun y hy => hl4 y (List.mem_of_mem_take hy)
      rw [List.length_take] at hfl
      have haR : a ≠ R := fun z => by rw [z, hR] at ha1; cases ha1
      rw [flatR_snoc hil]
      generalize l.getD i [] = b at *
      generalize flatR (l.take i) = acc at *
      refine ⟨_, rfl, .inl ⟨rfl, _, SqL.of hx⟩, _, rfl, a, _, rfl, .inl (SqL.of (s1 _ _ ha1)), 2, b.length, ?_, by decide, fun D1 H2 hD1 s2 hx2 => ?_⟩
      · rw [vN_len, bn_len]; rfl
      have hacc : acc.length ≤ 32784 := by
        have : min i l.length * (4096 + 2) ≤ 8 * 4098 := Nat.mul_le_mul (by omega) (by omega)
        omega
      refine ⟨R, D1, _, _, rfl, rfl, s2 _ _ hx, hx2, (by rw [vN_len, vN_len, hiN_len, sizeLine_eq]; omega), ?_⟩
      rw [← vN_app]
      have s3 : Same H (upd H2 R (.lst (vN (acc ++ hiN 2 b.length)))) := same_keep (s1.trans s2) hR
      have ha3 := s3 _ _ ha1
      refine ⟨_, rfl, .inl ⟨rfl, _, SqL.of upd_same⟩, _, rfl, R, a, _, _, rfl, rfl, upd_same, ha3, (by rw [vN_len, vN_len, List.length_append, hiN_len, bn_len, sizeLine_eq]; omega), ?_⟩
      rw [← vN_app]
      exact ⟨_, same_keep s3 hR, upd_same, rfl⟩
    · rintro σ H1 ⟨v2, s1, hx, rfl⟩
      rw [List.length_map, hfa2, List.take_length] at hx
      exact ⟨_, rfl, k R H1 hR s1 hx⟩
theorem hi2_from (b : Sound.Bytes) (h : b.length = 2) : Sound.high 2 (Sound.fromHigh b) = b := by
  match b, h with
  | [x, y], _ =>
    have hx := x.toNat_lt
    have hy := y.toNat_lt
    have e : Sound.fromHigh [x, y] = 256 * x.toNat + y.toNat := by
      rw [from_eq]
      show 256 * (256 * 0 + x.toNat) + y.toNat = _
      omega
    rw [e]
    have inj : ∀ a c : Sound.Bytes, bn a = bn c → a = c := fun a c z => by
      unfold bn at z
      exact (List.map_inj_right fun _ _ => UInt8.toNat_inj.mp).mp z
    apply inj
    rw [bn_high]
    unfold hiN bn
    simp [List.range_succ]
    omega
theorem rows_flat : ∀ (k : Nat) (lost : Bool) (b : Sound.Bytes) (fs : List Sound.Bytes), Sound.rowsIn lost k b = some fs → fs.flatMap Sound.rowOf = b
  | 0, lost, b, fs, h => by unfold Sound.rowsIn at h; cases h
  | k + 1, lost, b, fs, h => by
    by_cases hb : b = []
    · subst hb
      have h0 : Sound.rowsIn lost (k + 1) [] = some [] := by unfold Sound.rowsIn; rfl
      rw [h0] at h; cases h
      rfl
    · rw [rows_step lost k b hb] at h
      split at h
      · cases h
      · rename_i hc
        have hlen : ¬ b.length < 2 + Sound.fromHigh (b.take 2) := fun z => hc (.inl z)
        cases e : Sound.rowsIn lost k (b.drop (2 + Sound.fromHigh (b.take 2))) with
        | none => rw [e] at h; cases h
        | some l =>
          rw [e] at h
          cases h
          rw [List.flatMap_cons, rows_flat k lost _ l e]
          unfold Sound.rowOf
          have el : ((b.drop 2).take (Sound.fromHigh (b.take 2))).length = Sound.fromHigh (b.take 2) := by rw [List.length_take, List.length_drop]; omega
          rw [el, hi2_from _ (by rw [List.length_take]; omega), List.append_assoc, ← List.drop_drop, List.take_append_drop, List.take_append_drop]
theorem rows_all : ∀ (k : Nat) (lost : Bool) (b : Sound.Bytes) (fs : List Sound.Bytes), Sound.rowsIn lost k b = some fs → ∀ x ∈ fs, x.length ≤ 4096
  | 0, lost, b, fs, h => by unfold Sound.rowsIn at h; cases h
  | k + 1, lost, b, fs, h => by
    by_cases hb : b = []
    · subst hb
      have h0 : Sound.rowsIn lost (k + 1) [] = some [] := by unfold Sound.rowsIn; rfl
      rw [h0] at h; cases h
      intro x hx; cases hx
    · rw [rows_step lost k b hb] at h
      split at h
      · cases h
      · rename_i hc
        cases e : Sound.rowsIn lost k (b.drop (2 + Sound.fromHigh (b.take 2))) with
        | none => rw [e] at h; cases h
        | some l =>
          rw [e] at h
          cases h
          intro x hx
          rcases List.mem_cons.mp hx with rfl | hx
          · have := (may_iff lost (Sound.fromHigh (b.take 2))).mp (by
              cases q : (Sound.mayLong (Sound.fromHigh (b.take 2)) || (lost && Sound.fromHigh (b.take 2) == 0)) with
              | true => rfl
              | false => exact absurd (.inr q) hc)
            rw [List.length_take]; omega
          · exact rows_all k lost _ l e x hx
theorem gives_vals (b : Sound.Bytes) : (Sound.gives b).map V.int = V.int ((vN (bn b)).length : Nat) :: vN (bn b) := by
  unfold Sound.gives Sound.nats
  rw [vN_len, bn_len]
  simp only [List.map_cons, List.map_map]
  unfold vN bn
  rw [List.map_map]; rfl
def bytesI (l : List Int) : Sound.Bytes := SoNeutral.bytes l
theorem bytesI_vals {l : List Int} (h : ∀ x ∈ l, 0 ≤ x ∧ x ≤ 255) : l.map V.int = vN (bn (bytesI l)) := by
  unfold vN bn bytesI SoNeutral.bytes
  rw [List.map_map, List.map_map]
  refine List.map_congr_left fun x hx => ?_
  obtain ⟨h1, h2⟩ := h x hx
  show V.int x = V.int (((UInt8.ofNat x.toNat).toNat : Nat) : Int)
  rw [UInt8.toNat_ofNat', Nat.mod_eq_of_lt (by omega)]
  congr 1; omega
theorem bytesI_len (l : List Int) : (bytesI l).length = l.length := by unfold bytesI SoNeutral.bytes; rw [List.length_map]
theorem anew_take {fs : List Sound.Bytes} {ps : List Sound.Piece} (h1 : 1 ≤ (Sound.lostOf fs).length) : Sound.anew fs (ps.take (Sound.lostOf fs).length) = Sound.anew fs ps := by
  have hh : (ps.take (Sound.lostOf fs).length).headD ⟨0, 0, []⟩ = ps.headD ⟨0, 0, []⟩ := by
    obtain ⟨n, hn⟩ : ∃ n, (Sound.lostOf fs).length = n + 1 := ⟨(Sound.lostOf fs).length - 1, by omega⟩
    rw [hn]
    cases ps <;> rfl
  unfold Sound.anew
  simp only [hh, List.take_take, Nat.min_self]
theorem tog_take {g : Nat} {ps : List Sound.Piece} (h : Tog g ps) (n : Nat) : Tog g (ps.take n) := ⟨fun p hp => h.1 p (List.mem_of_mem_take hp), h.2.sublist (List.take_sublist ..)⟩
def anewS (g : Nat) (a : Option (List Sound.Bytes)) (b : Option (List Sound.Piece)) : List Int := match a, b with
  | some fs, some ps => if fs.isEmpty = true ∨ 8 < fs.length ∨ Sound.together g ps = false then [-2] else if ps.length < (Sound.lostOf fs).length then [-3] else (match Sound.anew fs ps with
    | none => [-4]
    | some l => Sound.gives (l.flatMap Sound.rowOf))
  | _, _ => [-2]
theorem anew_def (g : Nat) (rows pieces : List Int) (hl : rows.length ≤ 16384) (hp : pieces.length ≤ 16384) : PyWqaubg.anew (g : Int) rows pieces = if 65536 ≤ g then [-1] else anewS g (Sound.rowsIn true ((bytesI rows).length + 1) (bytesI rows)) (Sound.piecesIn ((bytesI pieces).length + 1) (bytesI pieces)) := by
  have e : PyWqaubg.anew (g : Int) rows pieces = if 2 ^ 16 ≤ g ∨ Sound.tooLong (bytesI rows) = true ∨ Sound.tooLong (bytesI pieces) = true then [-1] else anewS g (Sound.rowsIn true ((bytesI rows).length + 1) (bytesI rows)) (Sound.piecesIn ((bytesI pieces).length + 1) (bytesI pieces)) := rfl
  rw [e]
  have ht : ∀ l : List Int, l.length ≤ 16384 → Sound.tooLong (bytesI l) = false := fun l hl => by
    unfold Sound.tooLong Sound.FILE
    rw [bytesI_len]; exact decide_eq_false (by omega)
  rw [ht rows hl, ht pieces hp]
  simp only [Bool.false_eq_true, or_false]
theorem fill_all : ∀ (fs ms : List Sound.Bytes), ∀ x ∈ Sound.fill fs ms, x ∈ fs ∨ x ∈ ms
  | [], ms, x, h => by unfold Sound.fill at h; cases h
  | b :: r, [], x, h => .inl (by rw [fill_nil] at h; exact h)
  | b :: r, m :: ms, x, h => by
    unfold Sound.fill at h
    split at h
    · rcases List.mem_cons.mp h with rfl | h
      · exact .inr (List.mem_cons_self ..)
      · rcases fill_all r ms x h with q | q
        · exact .inl (List.mem_cons_of_mem _ q)
        · exact .inr (List.mem_cons_of_mem _ q)
    · rcases List.mem_cons.mp h with rfl | h
      · exact .inl (List.mem_cons_self ..)
      · rcases fill_all r (m :: ms) x h with q | q
        · exact .inl (List.mem_cons_of_mem _ q)
        · exact .inr q
theorem fill_length : ∀ (fs ms : List Sound.Bytes), (Sound.fill fs ms).length = fs.length
  | [], ms => by unfold Sound.fill; rfl
  | b :: r, [] => by rw [fill_nil]
  | b :: r, m :: ms => by
    unfold Sound.fill
    split <;> rw [List.length_cons, List.length_cons, fill_length]
theorem allF_small : ∀ (R : List (List Nat)) (ms : List Sound.Bytes), allF R = some ms → ∀ m ∈ ms, m.length ≤ 4096
  | [], ms, h => by cases h; intro m hm; cases hm
  | e :: r, ms, h => by
    rw [allF_cons] at h
    cases h1 : Sound.frameOf e with
    | none => rw [h1] at h; cases h
    | some m0 =>
      cases h2 : allF r with
      | none => rw [h1, h2] at h; cases h
      | some l =>
        rw [h1, h2] at h
        cases h
        intro m hm
        rcases List.mem_cons.mp hm with rfl | hm
        · unfold Sound.frameOf at h1
          simp only at h1
          split at h1
          · rename_i c
            cases h1
            have := c.1
            unfold Sound.mayLong Sound.LONGEST at this
            rw [Bool.and_eq_true] at this
            have := of_decide_eq_true this.2
            rw [List.length_take]; omega
          · cases h1
        · exact allF_small r l h2 m hm
theorem anew_small {fs l : List Sound.Bytes} {ps : List Sound.Piece} (h4 : ∀ b ∈ fs, b.length ≤ 4096) (h : Sound.anew fs ps = some l) : l.length = fs.length ∧ ∀ b ∈ l, b.length ≤ 4096 := by
  unfold Sound.anew at h
  simp only at h
  split at h
  · cases h; exact ⟨rfl, h4⟩
  · split at h
    · cases h
    · split at h
      · cases h
      · rename_i done _
        rw [allF_eq] at h
        cases e : allF (done.map fun e => e.row) with
        | none => rw [e] at h; cases h
        | some ms =>
          rw [e] at h
          cases h
          refine ⟨fill_length fs ms, fun b hb => ?_⟩
          rcases fill_all fs ms b hb with q | q
          · exact h4 b q
          · exact allF_small _ _ e b q
def spAnew (K : PySem.W.Frag) : Sp := fun vs H Q _ => ∃ (g : Int) (q r : Addr) (rows pieces : List Int), vs = [.int g, .ref q, .ref r] ∧ SqL K H q (rows.map V.int) ∧ SqL K H r (pieces.map V.int) ∧ (0 ≤ g ∧ g ≤ 4294967295) ∧ (rows.length ≤ 16384 ∧ (∀ x ∈ rows, 0 ≤ x ∧ x ≤ 255)) ∧ (pieces.length ≤ 16384 ∧ (∀ x ∈ pieces, 0 ≤ x ∧ x ≤ 255)) ∧
  ∀ (H' : Hp) (p : Addr), H' p = some (.lst ((PyWqaubg.anew g rows pieces).map V.int)) → Q (.ref p) H'
theorem sc_anew : FnScope ["g", "rows", "pieces", "frames", "found", "lost", "one"] ["g", "rows", "pieces"] (defScope s_anew) := ⟨rfl, rfl, rfl, by decide +kernel, rfl, by decide +kernel, by decide +kernel⟩
theorem ok_anew (T : Txt K mg A) : FnOk P w K mg base CX0 6 A.f_anew A.d_anew ["g", "rows", "pieces"] (spAnew K) := by
  refine T.F_anew.ok sc_anew (fun vs H Q E h => ?_) (fun cdv Ar outer s H vs Q E hr h => ?_)
  · obtain ⟨g, q, r, rows, pieces, rfl, _⟩ := h
    rfl
  · obtain ⟨gi, q, r, rows, pieces, rfl, hq, hrr, ⟨hg0, hg1⟩, ⟨hl, hb⟩, ⟨hpl, hpb⟩, k⟩ := h
    obtain ⟨g, rfl⟩ : ∃ g : Nat, gi = (g : Int) := ⟨gi.toNat, by omega⟩
    have hr1' : Room 1 _ := hr.mono (by decide)
    have hr2' : Room 2 _ := hr.mono (by decide)
    have hr4' : Room 4 _ := hr.mono (by decide)
    refine ⟨_, pss_cons (ps_if (pt_cmpR op_ge (pv 0) (pe_gi rfl T.g_GROUP_NUMBERS) (nomark _)) (pss_one (ps_ret (pe_lst (pa_cons (pe_un un_neg pe_int) pa_nil)))) pss_nil)
      (pss_cons (ps_try rfl rfl rfl (fun E pn xe hp ho => pss_cons (ps_set (i := 3) sc_anew.nd rfl (Or.inl rfl) (pe_callS (ok_read_rows T) hr2' rfl T.m_read_rows T.F_read_rows.kp T.b_read_rows .nil hp (pa_cons (pv 1) (pa_cons pe_int pa_nil))))
          (pss_one (ps_set (i := 4) sc_anew.nd rfl (Or.inl rfl) (pe_callS (ok_read_pieces T) hr4' rfl T.m_read_pieces T.F_read_pieces.kp T.b_read_pieces .nil hp (pa_cons (pv 0) (pa_cons (pv 2) pa_nil))))))
        (clause1 rfl T.x_Unfit rfl T.m_Unfit (fun x ps n _ => pss_one (ps_ret (pe_lst (pa_cons (pe_un un_neg pe_int) pa_nil))))))
      (pss_cons (ps_set (i := 5) sc_anew.nd rfl (Or.inl rfl) (pe_callB call_len_seq (by rfl) T.z_len PySem.boot_len (pa_cons (pe_lc (own := [("one", 6)]) rfl sc_anew.nd (pi_list (pv 3)) (blkOk_by (by kernel_rfl)) (fun _ _ _ _ _ => pg_name (i := 6) sc_anew.nd rfl (Or.inl rfl))
        (fun _ _ _ _ _ => pts_one (pt_cmpR op_eq (pe_callB (lenK (K := K) rfl) (by rfl) T.z_len PySem.boot_len (pa_cons (pv 6) pa_nil)) pe_int (nomark _))) (fun _ _ _ _ _ => pv 6)) pa_nil)))
      (pss_cons (ps_if (pt_cmpR op_eq (pv 5) pe_int (nomark _)) (pss_one (ps_ret (pe_call (ok_counted T) hr1' rfl T.m_counted T.F_counted.kp T.b_counted .nil pass0 (pa_cons (pv 1) pa_nil)))) pss_nil)
      (pss_cons (ps_if (pt_cmpR op_gt (pv 5) (pe_callB call_len_seq (by rfl) T.z_len PySem.boot_len (pa_cons (pv 4) pa_nil)) (nomark _)) (pss_one (ps_ret (pe_lst (pa_cons (pe_un un_neg pe_int) pa_nil)))) pss_nil)
      (pss_one (ps_try rfl rfl rfl (fun E pn xe hp ho => pss_one (ps_ret (pe_call (ok_counted T) hr1' rfl T.m_counted T.F_counted.kp T.b_counted .nil pass0 (pa_cons (pe_call (ok_write_rows T) hr2' rfl T.m_write_rows T.F_write_rows.kp T.b_write_rows .nil pass0 (pa_cons (pe_callS (ok_made_anew T) hr rfl T.m_made_anew T.F_made_anew.kp T.b_made_anew .nil hp (pa_cons (pv 3) (pa_cons (pe_slice (slK (K := K) rfl) (pv 4) po_none (po_some (pv 5))) pa_nil))) pa_nil)) pa_nil))))
        (clause1 rfl T.x_Unmade rfl T.m_Unmade (fun x ps n _ => pss_one (ps_ret (pe_lst (pa_cons (pe_un un_neg pe_int) pa_nil))))))))))), ?_⟩
    rw [bytesI_vals hb] at hq
    rw [bytesI_vals hpb] at hrr
    rw [anew_def g rows pieces hl hpl] at k
    generalize hB : bytesI rows = B at *
    generalize hPc : bytesI pieces = PB at *
    have hBl : B.length ≤ 16384 := by rw [← hB, bytesI_len]; exact hl
    have hPl : PB.length ≤ 16384 := by rw [← hPc, bytesI_len]; exact hpl
    have one1 : (1 : Nat) ≤ sizeLine := by rw [sizeLine_eq]; omega
    refine ⟨_, rfl, _, _, rfl, rfl, _, rfl, ?_⟩
    refine ite2 (fun c1 => ?_) fun c1 => ?_
    · have c1 : (65536 : Int) ≤ ((g : Nat) : Int) := of_decide_eq_true c1
      exact ⟨1, rfl, one1, fun p hp => k _ p (by rw [upd_same, if_pos (by omega)]; rfl)⟩
    have c1 : ¬ (65536 : Int) ≤ ((g : Nat) : Int) := fun z => c1 (decide_eq_true z)
    rw [if_neg (by omega)] at k
    have bad2 : anewS g (Sound.rowsIn true (B.length + 1) B) (Sound.piecesIn (PB.length + 1) PB) = [-2] → ∀ Hh p, Q (.ref p) (upd Hh p (.lst [V.int (-2)])) := fun h Hh p => k _ p (by rw [upd_same, h]; rfl)
    refine ⟨_, rfl, q, B, true, rfl, hq, hBl, ?_⟩
    unfold rowsOut
    cases e : Sound.rowsIn true (B.length + 1) B with
    | none =>
      rw [e] at bad2
      exact fun H1 s1 => ⟨rfl, 2, rfl, one1, fun p hp => bad2 rfl _ p⟩
    | some fs =>
      rw [e] at bad2 k
      dsimp only
      by_cases hc : fs.isEmpty = true ∨ 8 < fs.length
      · rw [if_pos hc]
        refine fun H1 s1 => ⟨rfl, 2, rfl, one1, fun p hp => bad2 ?_ _ p⟩
        cases Sound.piecesIn (PB.length + 1) PB with
        | none => rfl
        | some ps =>
          unfold anewS
          dsimp only
          rw [if_pos]
          rcases hc with hc | hc
          · exact .inl hc
          · exact .inr (.inl hc)
      · rw [if_neg hc]
        intro D H1 hD s1 hR
        refine ⟨_, rfl, _, rfl, g, r, PB, rfl, s1.seq hrr, hPl, ?_⟩
        cases eo : piecesOK g PB with
        | none =>
          refine fun H2 s2 => ⟨rfl, 2, rfl, one1, fun p hp => bad2 ?_ _ p⟩
          unfold piecesOK at eo
          cases e2 : Sound.piecesIn (PB.length + 1) PB with
          | none => rfl
          | some ps =>
            rw [e2] at eo
            unfold anewS
            dsimp only at eo ⊢
            split at eo
            · cases eo
            · rename_i ht
              rw [if_pos (.inr (.inr (by cases q : Sound.together g ps with | true => exact absurd q ht | false => rfl)))]
        | some ps =>
          intro D2 H2 hD2 s2 hP
          unfold piecesOK at eo
          obtain ⟨e2, htog⟩ : Sound.piecesIn (PB.length + 1) PB = some ps ∧ Sound.together g ps = true := by
            cases e2 : Sound.piecesIn (PB.length + 1) PB with
            | none => rw [e2] at eo; cases eo
            | some ps' =>
              rw [e2] at eo
              dsimp only at eo
              split at eo
              · cases eo; exact ⟨rfl, by assumption⟩
              · cases eo
          rw [e2] at k
          unfold anewS at k
          dsimp only at k
          have hT := (tog_iff g ps).mp htog
          rw [if_neg (by
            rintro (z | z | z)
            · exact hc (.inl z)
            · exact hc (.inr z)
            · rw [htog] at z; cases z)] at k
          have hne : fs ≠ [] := fun z => hc (.inl (by rw [z]; rfl))
          have hf1 := List.length_pos_iff.mpr hne
          have hf8 : fs.length ≤ 8 := Nat.le_of_not_lt fun z => hc (.inr z)
          have hf4 := rows_all _ _ _ _ e
          have hflat := rows_flat _ _ _ _ e
          have s12 := s1.trans s2
          have hR2 := hR.same s2
          obtain ⟨fa, hfa1, hfa2, hfa3⟩ := id hR2
          rw [fsN_len] at hfa2
          refine ⟨_, rfl, D, rfl, ⟨_, SqL.of hfa1⟩, fun D3 hD3 => ?_⟩
          refine lcf_val (J := Itl K D) hD3 fs.length (by rw [sizeLine_eq]; omega) (fun i => (fs.getD i []).length == 0) (fun i => .ref (fa.getD i 0)) (fun i Hh hi t1 => ?_) (fun Hh t1 => ⟨_, t1.seq (SqL.of hfa1), by rw [List.length_map]; omega⟩) ?_ ?_
          · obtain ⟨b, hb1, _⟩ := ref_get (as := fa) (i := i) (by omega)
            exact ⟨_, _, t1.seq (SqL.of hfa1), hb1⟩
          · rintro i Hh z H' hi t1 ⟨rfl, hz⟩ C N hC hN
            obtain ⟨b, rfl, hb⟩ := ref_get' (hz _ (t1.seq (SqL.of hfa1)))
            have hrb' := hfa3 i b hb
            have eb : fa.getD i 0 = b := by rw [List.getD_eq_getElem?_getD, hb]; rfl
            rw [eb] at hC
            refine ⟨rfl, _, rfl, b, _, rfl, .inl (t1.seq (SqL.of hrb')), rfl, _, rfl, ?_⟩
            rw [vN_len, fsN_get, bn_len]
            by_cases cz : (fs.getD i []).length = 0
            · rw [decide_eq_true (by rw [cz]; rfl)]
              exact iteT ⟨_, rfl, hC (by rw [cz]; rfl) _ (Same.refl _)⟩
            · rw [decide_eq_false (fun z => cz (by have := V.int.inj z; omega))]
              exact iteF (hN (by rw [beq_eq_false_iff_ne]; exact cz) _ (Same.refl _))
          · intro H3 s3 hx3
            have s13 := s12.trans s3
            refine ⟨D3, _, rfl, .inl (SqL.of hx3), ?_⟩
            rw [List.length_map, ← lost_range]
            refine ⟨_, rfl, rfl, _, rfl, ?_⟩
            by_cases c5 : (Sound.lostOf fs).length = 0
            · rw [decide_eq_true (by rw [c5]; rfl)]
              refine iteT ⟨_, rfl, q, _, rfl, s13.seq hq, (by rw [vN_len, bn_len]; omega), fun D4 H4 hD4 s4 hx4 => k H4 D4 ?_⟩
              have ha : Sound.anew fs ps = some fs := by
                unfold Sound.anew
                simp only
                rw [if_pos (by rw [List.isEmpty_iff]; exact List.length_eq_zero_iff.mp c5)]
              rw [hx4, if_neg (by omega), ha]
              dsimp only
              rw [gives_vals, hflat]
            · rw [decide_eq_false (fun z => c5 (by have := V.int.inj z; omega))]
              obtain ⟨pa, hpa1, hpa2, hpa3⟩ := hP.same s3
              refine iteF ⟨_, rfl, _, rfl, D2, _, rfl, .inl hpa1, _, _, rfl, rfl, _, rfl, ?_⟩
              rw [List.length_map, hpa2]
              refine ite2 (fun c6 => ?_) fun c6 => ?_
              · have c6 : ((ps.length : Nat) : Int) < (((Sound.lostOf fs).length : Nat) : Int) := of_decide_eq_true c6
                exact ⟨3, rfl, one1, fun p hp => k _ p (by rw [upd_same, if_pos (by omega)]; rfl)⟩
              · have c6 : ¬ ((ps.length : Nat) : Int) < (((Sound.lostOf fs).length : Nat) : Int) := fun z => c6 (decide_eq_true z)
                rw [if_neg (by omega)] at k
                refine ⟨_, rfl, _, rfl, _, rfl, _, rfl, D2, _, rfl, hpa1, fun p4 hp4 => ?_⟩
                rw [cut_to, ← List.map_take]
                have s4 := same_new (o := .lst ((pa.take (Sound.lostOf fs).length).map V.ref)) hp4
                refine ⟨D, p4, g, fs, ps.take (Sound.lostOf fs).length, rfl, hR2.same (s3.trans s4), ⟨_, SqL.of upd_same, by rw [List.length_take, List.length_take, hpa2], fun kk a ee => ?_⟩, ⟨⟨hf1, hf8⟩, hf4⟩, ⟨tog_take hT _, by rw [List.length_take]; omega, by rw [List.length_take]; omega⟩, ?_⟩
                · have hkk : kk < (Sound.lostOf fs).length := by
                    have := (List.getElem?_eq_some_iff.mp ee).1
                    rw [List.length_take] at this; omega
                  rw [List.getElem?_take, if_pos hkk] at ee
                  rw [List.getD_eq_getElem?_getD, List.getElem?_take, if_pos hkk, ← List.getD_eq_getElem?_getD]
                  exact (hpa3 kk a ee).same s4
                rw [anew_take (by omega)]
                cases en : Sound.anew fs ps with
                | none =>
                  rw [en] at k
                  exact fun H5 s5 => ⟨rfl, 4, rfl, one1, fun p hp => k _ p (by rw [upd_same]; rfl)⟩
                | some l =>
                  rw [en] at k
                  obtain ⟨hll, hl4⟩ := anew_small hf4 en
                  intro D5 H5 hD5 s5 hR5
                  refine ⟨D5, l, rfl, hR5, ⟨by omega, hl4⟩, fun D6 H6 hD6 s6 hx6 => ?_⟩
                  have hfl := flatR_len (b := 4096) l hl4
                  have hfl2 : (flatR l).length ≤ 32784 := by
                    have : l.length * (4096 + 2) ≤ 8 * 4098 := Nat.mul_le_mul (by omega) (by omega)
                    omega
                  refine ⟨D6, _, rfl, SqL.of hx6, (by rw [vN_len]; omega), fun D7 H7 hD7 s7 hx7 => k H7 D7 ?_⟩
                  rw [hx7]
                  dsimp only
                  rw [gives_vals]
                  rfl
end
end Wg
open PySem PySem.W PyProof.Rows
set_option maxRecDepth 100000 in
set_option maxHeartbeats 0 in
theorem PySem.Challenge.cw_soundkeeping_s05_anew_holds : PySem.Challenge.rw_soundkeeping_s05_anew.Holds := by
  w_on; k_headS; (case hw => exact ⟨[.int 0, .list [], .list []], by decide +kernel, by decide +kernel⟩)
  k_fillS
  refine L2.walk_specK (r := PySem.Challenge.rw_soundkeeping_s05_anew) (k := 6) (CX := L2.CX0) (ps := ["g", "rows", "pieces"]) (sp := Wg.spAnew) (by decide +kernel) rfl rfl ⟨rfl, by decide, by decide⟩ (fun w h Y => PySem.W.kIn_of Y) ?F ?S (fun _ _ _ _ z => z)
  case F =>
    intro w mg fa h Y KX G hmg
    have T : ∃ A, Wg.Txt (L2.KOf KX) mg A := by
      dsimp only [L2.KOf]
      apply Wg.txt_mk KX G
      all_goals first | k_is | k_exc | rfl
    obtain ⟨A, T⟩ := T
    have e0 := hmg.symm.trans T.m_anew
    cases e0
    exact ⟨A.d_anew, T.entry, fun base _ _ => Wg.ok_anew T⟩
  case S =>
    intro K H xs a hO hwi hask hx
    obtain ⟨x0, x1, x2, u⟩ := a
    cases hx with
    | cons h0 r0 =>
      cases r0 with
      | cons h1 r1 =>
        cases r1 with
        | cons h2 r2 =>
          cases r2
          cases h0
          cases h1 with
          | lst s1 d1 =>
            have e1 := L2.ints_dw x1 _ d1
            subst e1
            cases h2 with
            | lst s2 d2 =>
              have e2 := L2.ints_dw x2 _ d2
              subst e2
              have q : (Codec.inInt 0 4294967295 x0 && ((Codec.inLen 0 16384 x1 && x1.all (Codec.inInt 0 255)) && ((Codec.inLen 0 16384 x2 && x2.all (Codec.inInt 0 255)) && true))) = true := hwi
              simp only [Bool.and_eq_true] at q
              obtain ⟨q0, ⟨l1, b1⟩, ⟨l2, b2⟩, _⟩ := q
              have q0 := Codec.inInt_iff.mp q0
              have l1 := (Codec.inNat_iff.mp l1).2
              have b1 := fun z hz => Codec.inInt_iff.mp (List.all_eq_true.mp b1 z hz)
              have l2 := (Codec.inNat_iff.mp l2).2
              have b2 := fun z hz => Codec.inInt_iff.mp (List.all_eq_true.mp b2 z hz)
              exact ⟨x0, _, _, x1, x2, rfl, s1, s2, q0, ⟨l1, b1⟩, ⟨l2, b2⟩, fun H' p hp => .lst (L2.SqL.of hp) (L2.dw_ints _)⟩
#print axioms PySem.Challenge.cw_soundkeeping_s05_anew_holds
