import PyProof.Rows.All
import Wide.All
import OpenK.AllK
import Wide.FinOn
import PyProof.EqAt
import PyProof.EqKinds
import PyProof.TupleCall
import KE.BitLaws
import Open.SpecLaws
import KE.OsHead
import KE.OsGo
import PySem.Challenge.RW_soundkeeping_s02_unframe
set_option Elab.async false
set_option linter.all false
set_option maxRecDepth 100000
namespace L2
open PySem PySem.Spec PyProof.Rows
abbrev Key := Sum Int Str
def keyIs : Key → Value → Bool
  | .inl k, v => Value.isInt k v
  | .inr x, v => Value.isStrOf x v
def keyH (w : World) : Key → Int
  | .inl k => hashInt k
  | .inr x => hashStr w x
theorem keyIs_shape : ∀ {k : Key} {v : Value}, keyIs k v = true → (∃ i t, k = Sum.inl i ∧ v = Value.int i t) ∨ (∃ x t, k = Sum.inr x ∧ v = Value.str x t)
  | .inl i, v, h => by
    obtain ⟨t, e⟩ := Value.isInt_shape (k := i) (v := v) h
    exact .inl ⟨i, t, rfl, e⟩
  | .inr x, v, h => by
    obtain ⟨t, e⟩ := Value.isStrOf_shape (x := x) (v := v) h
    exact .inr ⟨x, t, rfl, e⟩
theorem key_ll (a b : Int) : decide ((Sum.inl a : Key) = Sum.inl b) = (a == b) := by
  by_cases e : a = b
  · subst e; simp
  · have h : ¬ (Sum.inl a : Key) = Sum.inl b := fun q => e (Sum.inl.inj q)
    rw [decide_eq_false h]
    exact (beq_eq_false_iff_ne.mpr e).symm
theorem key_rr (a b : Str) : decide ((Sum.inr a : Key) = Sum.inr b) = decide (a = b) := by
  by_cases e : a = b
  · subst e; simp
  · have h : ¬ (Sum.inr a : Key) = Sum.inr b := fun q => e (Sum.inr.inj q)
    rw [decide_eq_false h, decide_eq_false e]
theorem key_lr (a : Int) (b : Str) : decide ((Sum.inl a : Key) = Sum.inr b) = false := decide_eq_false (fun q => nomatch q)
theorem key_rl (a : Str) (b : Int) : decide ((Sum.inr a : Key) = Sum.inl b) = false := decide_eq_false (fun q => nomatch q)
def mixKind (prog : Program) (w : World) : PySem.KeyKind prog w Key where
  is := keyIs
  hash := keyH w
  inj := fun v a b ha hb => by
    rcases keyIs_shape ha with ⟨i, t, rfl, rfl⟩ | ⟨x, t, rfl, rfl⟩
    · rcases keyIs_shape hb with ⟨j, u, rfl, e⟩ | ⟨y, u, rfl, e⟩
      · injection e with e1 _; rw [e1]
      · exact nomatch e
    · rcases keyIs_shape hb with ⟨j, u, rfl, e⟩ | ⟨y, u, rfl, e⟩
      · exact nomatch e
      · injection e with e1 _; rw [e1]
  byValue := fun k v h => by
    rcases keyIs_shape h with ⟨i, t, rfl, rfl⟩ | ⟨x, t, rfl, rfl⟩ <;> rfl
  pyHash := fun hv h => by
    rcases keyIs_shape hv with ⟨i, t, rfl, rfl⟩ | ⟨x, t, rfl, rfl⟩
    · exact wpAny_pyHash_int h
    · exact wpAny_pyHash_str h
  eqBool := fun hu hv h => by
    rcases keyIs_shape hu with ⟨i, t, rfl, rfl⟩ | ⟨x, t, rfl, rfl⟩
    · rcases keyIs_shape hv with ⟨j, u, rfl, rfl⟩ | ⟨y, u, rfl, rfl⟩
      · rw [key_ll] at h; exact wpAny_eqBool_int h
      · rw [key_lr] at h; exact SeqAt.EqAt.int_str i t y u _ _ _ _ h
    · rcases keyIs_shape hv with ⟨j, u, rfl, rfl⟩ | ⟨y, u, rfl, rfl⟩
      · rw [key_rl] at h; exact SeqAt.EqAt.str_int x t j u _ _ _ _ h
      · rw [key_rr] at h; exact wpAny_eqBool_str h
  «strs» := fun k x t v h => by
    rcases keyIs_shape h with ⟨i, u, rfl, e⟩ | ⟨y, u, rfl, e⟩
    · exact nomatch e
    · injection e with e1 _
      subst e1
      cases v <;> rfl
end L2
namespace L2
open PySem PySem.Spec PyProof.Rows
inductive V where
  | non | bl (b : Bool) | int (i : Int) | str (x : Str) | byt (b : Array UInt8) | flt (b : UInt64) | ref (a : Addr) | ty (n : String)
  deriving DecidableEq
def RelV : V → Value → Prop
  | .non, u => u = Value.none
  | .bl b, u => u = Value.bool b
  | .int i, u => ∃ t, u = Value.int i t
  | .str x, u => ∃ t, u = Value.str x t
  | .byt b, u => ∃ t, u = Value.bytes b t
  | .flt b, u => ∃ t, u = Value.float b t
  | .ref a, u => u = Value.ref a
  | .ty n, u => u = Value.type n
abbrev Vals : List V → List Value → Prop := Paired RelV
theorem Vals.length {xs : List V} {us : List Value} (r : Vals xs us) : xs.length = us.length := Paired.length r
theorem Vals.get : ∀ {xs : List V} {us : List Value} {i : Nat} {x : V}, Vals xs us → xs[i]? = some x → ∃ u, us[i]? = some u ∧ RelV x u
  | _, _, _, _, .nil, e => by simp at e
  | _, _, 0, _, .cons r _, e => by simp at e; subst e; exact ⟨_, rfl, r⟩
  | _, _, i + 1, x, .cons _ t, e => by
    obtain ⟨u, h1, h2⟩ := Vals.get (i := i) (x := x) t (by simpa using e)
    exact ⟨u, by simpa using h1, h2⟩
theorem Vals.append : ∀ {xs ys : List V} {us ws : List Value}, Vals xs us → Vals ys ws → Vals (xs ++ ys) (us ++ ws)
  | _, _, _, _, .nil, s => s
  | _, _, _, _, .cons r t, s => .cons r (Vals.append t s)
theorem Vals.take : ∀ {xs : List V} {us : List Value} (n : Nat), Vals xs us → Vals (xs.take n) (us.take n)
  | _, _, 0, _ => .nil
  | _, _, _ + 1, .nil => .nil
  | _, _, n + 1, .cons r t => .cons r (Vals.take n t)
theorem Vals.drop : ∀ {xs : List V} {us : List Value} (n : Nat), Vals xs us → Vals (xs.drop n) (us.drop n)
  | _, _, 0, r => r
  | _, _, _ + 1, .nil => .nil
  | _, _, n + 1, .cons _ t => Vals.drop n t
def RelO : Option V → Option Value → Prop
  | some v, some u => RelV v u
  | none, none => True
  | _, _ => False
def KV {κ : Type} : List (κ × V) → List (κ × Value) → Prop := Paired fun (p : κ × V) (q : κ × Value) => p.1 = q.1 ∧ RelV p.2 q.2
def kV : Key → V
  | .inl i => .int i
  | .inr x => .str x
inductive HO where
  | lst (xs : List V)
  | tup (xs : List V)
  | dK (kvs : List (Key × V)) | dT (kvs : List (List Key × V))
  | set (S : Int → Bool) (n : Nat)
  | ins (C dx : Addr) (fs : List (Str × V))
  | own (x : Addr)
  | xd (fs : List (Str × V))
  | met (f x : Addr)
  | rng (lo hi : Int)
  | frz (o : Obj) (u : HO)
  | tbl (ps : Array Value)
  | ext (φ : Heap → Prop)
abbrev Hp := Addr → Option HO
def upd (H : Hp) (a : Addr) (o : HO) : Hp := fun b => if b = a then some o else H b
theorem upd_same {H : Hp} {a : Addr} {o : HO} : upd H a o a = some o := by unfold upd; rw [if_pos rfl]
theorem upd_ne {H : Hp} {a b : Addr} {o : HO} (h : b ≠ a) : upd H a o b = H b := by unfold upd; rw [if_neg h]
theorem upd_upd {H : Hp} {a : Addr} {o u : HO} : upd (upd H a o) a u = upd H a u := by
  funext b; unfold upd; split <;> rfl
theorem ne_of {H : Hp} {a b : Addr} {o u : HO} (h : H a = some o) (h' : H b = some u) (d : o ≠ u) : a ≠ b := by
  intro e; subst e; rw [h] at h'; exact d (Option.some.inj h')
theorem ne_of_none {H : Hp} {a b : Addr} {o : HO} (h : H a = some o) (h' : H b = none) : a ≠ b := by
  intro e; subst e; rw [h] at h'; cases h'
section
variable (P : Program) (w : World)
def ObjOk (H : Hp) (h : Heap) (a : Addr) : HO → Prop
  | .lst xs => xs.length ≤ sizeLine ∧ ∃ (its : List Value) (n : Nat), Vals xs its ∧ h.get? a = some { cls := .type "list", data := .seq its.toArray n }
  | .tup xs => xs.length ≤ sizeLine ∧ ∃ its : List Value, Vals xs its ∧ IsTup h a its.toArray
  | .dK kvs => kvs.length ≤ sizeLine ∧ (a == sysModules) = false ∧ ∃ vs, KV kvs vs ∧ h.DictOf (mixKind P w) a vs
  | .dT kvs => kvs.length ≤ sizeLine ∧ (a == sysModules) = false ∧ ∃ xs : List (List Key × Addr × Value),
      Paired (fun (p : List Key × V) (q : List Key × Addr × Value) => p.1 = q.1 ∧ H q.2.1 = some (.tup (p.1.map kV)) ∧ RelV p.2 q.2.2) kvs xs ∧
      ∃ o es ep, h.get? a = some o ∧ o.ExactDict ∧ o.data = .dict es ep ∧ es.toList = xs.map (entryOfKey (tupleKind (mixKind P w))) ∧ (xs.map (·.1)).Nodup
  | .set S n => h.SetOf (intKind P w) a S n
  | .ins C dx fs => H dx = some (.own a) ∧ fs.length ≤ 1000 ∧ dx ≠ a ∧ h.get? a = some (PySem.W.instObj C dx) ∧
      ∃ mA, h.Ns1 dx mA ∧ (∀ f, RelO (fs.lookup f) (mA f)) ∧ PySem.Within mA (fs.map (·.1))
  | .own _ => ∃ o, h.get? a = some o
  | .xd fs => ∃ mA, h.Ns1 a mA ∧ ∀ f, RelO (fs.lookup f) (mA f)
  | .rng lo hi => ∃ t u v, h.get? a = some { cls := .type "range", data := .fields #[.int lo t, .int hi u, .int 1 v] }
  | .frz o u => h.get? a = some o ∧ ObjOk H h a u
  | .tbl ps => h.get? a = some { cls := .none, data := .fields ps }
  | .met f x => h.get? a = some (PySem.W.methodObj (.ref f) (.ref x))
  | .ext φ => φ h ∧ (∃ o, h.get? a = some o) ∧ ∀ h1 h2 : Heap, φ h1 → (∀ o, h1.get? a = some o → h2.get? a = some o) → φ h2
def HOk (H : Hp) (h : Heap) : Prop := ∀ a o, H a = some o → ObjOk P w H h a o
end
section
variable {P : Program} {w : World} {H H' : Hp} {h h' : Heap} {a : Addr} {o : HO}
theorem ObjOk.lt (x : ObjOk P w H h a o) : a < h.objs.size := by
  cases o with
  | lst xs => obtain ⟨_, _, _, _, e⟩ := x; exact Heap.lt_size e
  | tup xs => obtain ⟨_, _, _, p⟩ := x; exact p.lt
  | dK kvs => obtain ⟨_, _, _, _, o, _, _, e, _⟩ := x; exact Heap.lt_size e
  | dT kvs => obtain ⟨_, _, _, _, o, _, _, e, _⟩ := x; exact Heap.lt_size e
  | set S n => obtain ⟨o, _, _, _, e, _⟩ := x; exact Heap.lt_size e
  | ins C dx fs => obtain ⟨_, _, _, e, _⟩ := x; exact Heap.lt_size e
  | own y => obtain ⟨_, e⟩ := x; exact Heap.lt_size e
  | xd fs => obtain ⟨_, ⟨_, _, _, e, _⟩, _⟩ := x; exact Heap.lt_size e
  | rng lo hi => obtain ⟨_, _, _, e⟩ := x; exact Heap.lt_size e
  | frz ob u => obtain ⟨e, _⟩ := x; exact Heap.lt_size e
  | tbl ps => exact Heap.lt_size (show h.get? a = some _ from x)
  | met f y => exact Heap.lt_size (show h.get? a = some _ from x)
  | ext φ => obtain ⟨_, ⟨_, e⟩, _⟩ := x; exact Heap.lt_size e
theorem Paired.mapP {α β : Type} {F G : α → β → Prop} : ∀ {l₁ : List α} {l₂ : List β}, Paired F l₁ l₂ → (∀ a b, F a b → G a b) → Paired G l₁ l₂
  | _, _, .nil, _ => .nil
  | _, _, .cons r t, f => .cons (f _ _ r) (Paired.mapP t f)
theorem ObjOk.stay (x : ObjOk P w H h a o) (k : ∀ b u, (b = a ∨ H b = some (.own a)) → h.get? b = some u → h'.get? b = some u)
    (ho : ∀ b, H b = some (.own a) → H' b = some (.own a)) (ht : ∀ b xs, H b = some (.tup xs) → H' b = some (.tup xs)) : ObjOk P w H' h' a o := by
  induction o with
  | lst xs => obtain ⟨z, its, n, r, e⟩ := x; exact ⟨z, its, n, r, k _ _ (.inl rfl) e⟩
  | tup xs => obtain ⟨z, its, r, ob, e, c⟩ := x; exact ⟨z, its, r, ob, k _ _ (.inl rfl) e, c⟩
  | dK kvs => obtain ⟨z, y, vs, r, ob, es, ep, e, c⟩ := x; exact ⟨z, y, vs, r, ob, es, ep, k _ _ (.inl rfl) e, c⟩
  | dT kvs =>
    obtain ⟨z, y, xs, r, ob, es, ep, e, c⟩ := x
    exact ⟨z, y, xs, Paired.mapP r fun p q z => ⟨z.1, ht _ _ z.2.1, z.2.2⟩, ob, es, ep, k _ _ (.inl rfl) e, c⟩
  | set S n => obtain ⟨ob, es, ep, t, e, c⟩ := x; exact ⟨ob, es, ep, t, k _ _ (.inl rfl) e, c⟩
  | ins C dx fs =>
    obtain ⟨d, z, ne, e, mA, ⟨od, es, ep, e2, c⟩, r⟩ := x
    exact ⟨ho _ d, z, ne, k _ _ (.inl rfl) e, mA, ⟨od, es, ep, k _ _ (.inr d) e2, c⟩, r⟩
  | own y => obtain ⟨ob, e⟩ := x; exact ⟨ob, k _ _ (.inl rfl) e⟩
  | xd fs => obtain ⟨mA, ⟨od, es, ep, e, c⟩, r⟩ := x; exact ⟨mA, ⟨od, es, ep, k _ _ (.inl rfl) e, c⟩, r⟩
  | rng lo hi => obtain ⟨t, u, v, e⟩ := x; exact ⟨t, u, v, k _ _ (.inl rfl) e⟩
  | frz ob u ih => obtain ⟨e, q⟩ := x; exact ⟨k _ _ (.inl rfl) e, ih q⟩
  | tbl ps =>
    have e : h.get? a = some { cls := .none, data := .fields ps } := x
    show h'.get? a = some { cls := .none, data := .fields ps }
    exact k a _ (.inl rfl) e
  | met f y =>
    have e : h.get? a = some (PySem.W.methodObj (.ref f) (.ref y)) := x
    show h'.get? a = some (PySem.W.methodObj (.ref f) (.ref y))
    exact k a _ (.inl rfl) e
  | ext φ => obtain ⟨p, ⟨o, e⟩, st⟩ := x; exact ⟨st _ _ p fun o q => k _ _ (.inl rfl) q, ⟨o, k _ _ (.inl rfl) e⟩, st⟩
theorem HOk.lt (x : HOk P w H h) (e : H a = some o) : a < h.objs.size := (x a o e).lt
theorem HOk.fresh (x : HOk P w H h) (e : h.objs.size ≤ a) : H a = none := by
  cases q : H a with
  | none => rfl
  | some u => exact absurd (Nat.lt_of_lt_of_le (x.lt q) e) (Nat.lt_irrefl _)
theorem HOk.kept (x : HOk P w H h) (k : ∀ b u, h.get? b = some u → h'.get? b = some u) : HOk P w H h' := fun a o e =>
  (x a o e).stay (fun b u _ q => k b u q) (fun _ q => q) fun _ _ q => q
theorem HOk.laid (x : HOk P w H h) (k : ∀ b u, h.get? b = some u → h'.get? b = some u) (hp : h.objs.size ≤ a) (new : ObjOk P w (upd H a o) h' a o) : HOk P w (upd H a o) h' := fun b u e => by
  have hn := x.fresh hp
  by_cases hb : b = a
  · subst hb; rw [upd_same] at e; cases e; exact new
  · rw [upd_ne hb] at e
    exact (x b u e).stay (fun c v _ q => k c v q) (fun c q => by rw [upd_ne (ne_of_none q hn)]; exact q) fun c xs q => by rw [upd_ne (ne_of_none q hn)]; exact q
end
def Rd (H : Hp) (a : Addr) (u : HO) : Prop := H a = some u ∨ ∃ o, H a = some (.frz o u)
theorem Rd.ok {P : Program} {w : World} {H : Hp} {h : Heap} {a : Addr} {u : HO} (r : Rd H a u) (x : HOk P w H h) : ObjOk P w H h a u := by
  rcases r with r | ⟨o, r⟩
  · exact x a u r
  · obtain ⟨_, q⟩ := x a _ r
    exact q
def Mut : Option HO → Prop
  | some (.lst _) => True
  | some (.dK _) => True
  | some (.dT _) => True
  | some (.set _ _) => True
  | some (.ins _ _ _) => True
  | some (.ext _) => True
  | _ => False
section
variable {P : Program} {w : World} {H : Hp} {h h' : Heap} {x e : Addr} {o' : HO}
theorem HOk.write (ok : HOk P w H h) (mu : Mut (H x)) (he : e = x ∨ H e = some (.own x)) (k : ∀ b u, b ≠ e → h.get? b = some u → h'.get? b = some u) (heo : ∃ u, h'.get? e = some u)
    (new : ObjOk P w (upd H x o') h' x o') : HOk P w (upd H x o') h' := fun b u q => by
  have nown : ∀ c y, H c = some (.own y) → c ≠ x := fun c y r z => by subst z; rw [r] at mu; exact mu
  have ntup : ∀ c xs, H c = some (.tup xs) → c ≠ x := fun c xs r z => by subst z; rw [r] at mu; exact mu
  by_cases hb : b = x
  · subst hb; rw [upd_same] at q; cases q; exact new
  · rw [upd_ne hb] at q
    by_cases hbe : b = e
    · have q' : H b = some (.own x) := by
        rcases he with z | z
        · exact absurd (hbe.trans z) hb
        · rw [hbe]; exact z
      rw [q] at q'; cases q'
      obtain ⟨v, hv⟩ := heo
      exact ⟨v, by rw [hbe]; exact hv⟩
    · refine (ok b u q).stay (fun c v hc r => k c v ?_ r) (fun c r => by rw [upd_ne (nown c b r)]; exact r) fun c xs r => by rw [upd_ne (ntup c xs r)]; exact r
      rcases hc with rfl | hc
      · exact hbe
      · rintro rfl
        rcases he with z | z
        · exact nown c b hc z
        · rw [hc] at z; cases z; exact hb rfl
end
structure Un (fs ex : List Addr) (H H' : Hp) (h h' : Heap) : Prop where
  keep : ∀ b o, h.get? b = some o → H b = none → b ∉ fs → b ∉ ex → h'.get? b = some o
  slot : ∀ b o, h.get? b = some o → H b = none → b ∈ fs → b ∉ ex → ∃ sl, h'.get? b = some { o with slots := sl }
  free : ∀ b o, h.get? b = some o → H b = none → b ∉ ex → H' b = none
  there : ∀ b o, h.get? b = some o → b ∉ ex → ∃ o', h'.get? b = some o'
  tups : ∀ b xs, H b = some (.tup xs) → H' b = some (.tup xs)
  frzs : ∀ b o u, H b = some (.frz o u) → H' b = some (.frz o u)
  tbls : ∀ b ps, H b = some (.tbl ps) → ∃ more, H' b = some (.tbl (ps ++ more))
section
variable {fs fs' ex ex' : List Addr} {H H1 H2 : Hp} {h h1 h2 h' : Heap} {a x e : Addr} {o : HO}
theorem Un.any (u : Un fs ex H H1 h h1) {b : Addr} {ob : Obj} (q : h.get? b = some ob) (n : H b = none) (hx : b ∉ ex) : ∃ sl, h1.get? b = some { ob with slots := sl } := by
  by_cases hb : b ∈ fs
  · exact u.slot b ob q n hb hx
  · exact ⟨ob.slots, u.keep b ob q n hb hx⟩
theorem Un.kept (k : ∀ b u, h.get? b = some u → h'.get? b = some u) : Un fs ex H H h h' :=
  ⟨fun b ob q _ _ _ => k b ob q, fun b ob q _ _ _ => ⟨ob.slots, k b ob q⟩, fun _ _ _ n _ => n, fun b ob q _ => ⟨ob, k b ob q⟩, fun _ _ q => q, fun _ _ _ q => q, fun _ ps q => ⟨#[], by rw [q]; simp⟩⟩
theorem Un.refl : Un fs ex H H h h := Un.kept fun _ _ q => q
theorem Un.laid (k : ∀ b u, h.get? b = some u → h'.get? b = some u) (hp : h.objs.size ≤ a) (hn : H a = none) : Un fs ex H (upd H a o) h h' where
  keep := fun b u q _ _ _ => k b u q
  slot := fun b u q _ _ _ => ⟨u.slots, k b u q⟩
  free := fun b u q n _ => by rw [upd_ne (Nat.ne_of_lt (Nat.lt_of_lt_of_le (Heap.lt_size q) hp))]; exact n
  there := fun b u q _ => ⟨u, k b u q⟩
  tups := fun b xs q => by rw [upd_ne (ne_of_none q hn)]; exact q
  frzs := fun b u xs q => by rw [upd_ne (ne_of_none q hn)]; exact q
  tbls := fun b ps q => ⟨#[], by rw [upd_ne (ne_of_none q hn), q]; simp⟩
theorem Un.write (mu : Mut (H x)) (he : e = x ∨ H e = some (.own x)) (k : ∀ b u, b ≠ e → h.get? b = some u → h'.get? b = some u) (heo : ∃ u, h'.get? e = some u) : Un fs ex H (upd H x o) h h' := by
  have hx : ∀ b, H b = none → b ≠ x := fun b n z => by subst z; rw [n] at mu; exact mu
  have hb : ∀ b, H b = none → b ≠ e := fun b n z => by
    subst z
    rcases he with r | r
    · exact hx b n r
    · rw [n] at r; cases r
  have hm : ∀ b u, H b = some u → ¬ Mut (some u) → b ≠ x := fun b u q nm z => by subst z; rw [q] at mu; exact nm mu
  refine ⟨fun b u q n _ _ => k b u (hb b n) q, fun b u q n _ _ => ⟨u.slots, k b u (hb b n) q⟩, fun b u q n _ => by rw [upd_ne (hx b n)]; exact n, fun b u q _ => ?_,
    fun b xs q => by rw [upd_ne (hm b _ q fun z => z)]; exact q, fun b u xs q => by rw [upd_ne (hm b _ q fun z => z)]; exact q, fun b ps q => ⟨#[], by rw [upd_ne (hm b _ q fun z => z), q]; simp⟩⟩
  by_cases hbe : b = e
  · subst hbe; exact heo
  · exact ⟨u, k b u hbe q⟩
end
def trk (h : Heap) (H : Hp) : List Addr := (List.range h.objs.size).filter fun a => (H a).isSome
def hidT (h : Heap) (H : Hp) : Heap := PySem.W.hideAll h (trk h H)
theorem hidT_size (h : Heap) (H : Hp) : (hidT h H).objs.size = h.objs.size := PySem.W.hideAll_size _ _
theorem hidT_get {h : Heap} {H : Hp} {b : Addr} {o : Obj} (e : h.get? b = some o) (n : H b = none) : (hidT h H).get? b = some o :=
  PySem.W.hideAll_get _ e fun hm => by
    have q : (H b).isSome = true := (List.mem_filter.mp hm).2
    rw [n] at q; simp at q
theorem of_hidT {h : Heap} {H : Hp} {b : Addr} {o : Obj} (e : (hidT h H).get? b = some o) : h.get? b = some o ∧ H b = none := by
  have e' : h.get? b = some o := PySem.W.of_hideAll (trk h H) e
  refine ⟨e', ?_⟩
  cases q : H b with
  | none => rfl
  | some x =>
    have hm : b ∈ trk h H := List.mem_filter.mpr ⟨List.mem_range.mpr (Heap.lt_size e'), by simp [q]⟩
    have z : (hidT h H).get? b = none := PySem.W.hideAll_none (trk h H) hm
    rw [z] at e; cases e
end L2
namespace L2
open PySem PySem.Spec PyProof.Rows
structure Mod (K : PySem.W.Frag) (mg : Str → Option Value) (base : Heap) : Prop where
  kin : K.In base
  glob : base.Ns mainGlobals mg
  blt : ∃ mb, base.Ns builtinsNs mb ∧ ∀ x : Str, x ≠ "__name__" → mb x = bootBuiltins x
  nolimit : base.NoLimit
structure Cx where
  prog : Program
  w : World
  K : PySem.W.Frag
  mg : Str → Option Value
  base : Heap
  A : Around
  N : List Str
  s_0 : Shared
  H_0 : Hp
  env : Env
  outer : List Env
  stack : List Env
  ex : List Addr
  fn : Str → Bool
  calm : Bool
  pn : List (Addr × Obj)
  xe : Value → Shared → Prop
def frs (l : List Env) : List Addr := l.filterMap (·.frame)
abbrev Cx.fs (X : Cx) : List Addr := frs X.outer
def Vis (sc : Scope) (x : Str) : Prop := sc.names.lookup x = some .local ∨ sc.names.lookup x = some .cell ∨ sc.names.lookup x = some .free
def Loc (sc : Scope) (x : Str) : Prop := sc.names.lookup x = some .local ∨ sc.names.lookup x = some .cell
def Look (env : Env) (h : Heap) (m : Str → Option Value) (x : Str) (u : Value) : Prop :=
  (env.kindOf x = some .local ∧ m x = some u) ∨ ((env.kindOf x = some .cell ∨ env.kindOf x = some .free) ∧ ∃ c, env.cells.lookup x = some c ∧ h.IsCell c (some u))
structure Cx.Ok (X : Cx) : Prop where
  mod : Mod X.K X.mg X.base
  kind : X.env.scope.kind = .function
  glob : X.env.globals = mainGlobals
  blt : X.env.builtins = builtinsNs
  above : X.s_0.heap.objs.size ≤ X.env.locals
  inj : ∀ x y c, X.env.cells.lookup x = some c → X.env.cells.lookup y = some c → x = y
  has : ∀ x, (X.env.kindOf x = some .cell ∨ X.env.kindOf x = some .free) → ∃ c, X.env.cells.lookup x = some c
  cab : ∀ x c, X.fn x = true → X.env.cells.lookup x = some c → X.s_0.heap.objs.size ≤ c
  hd : X.calm = true → X.A.handled = none
  frames : X.A.frames = some X.stack
  stk : X.stack = X.outer ∨ (X.stack = X.env :: X.outer ∧ X.env.frame = some X.env.locals)
  exf : ∀ b ∈ X.ex, b ≠ X.env.locals ∧ ∀ x c, X.env.cells.lookup x = some c → c ≠ b
  bs : ∀ b o, X.base.get? b = some o → X.s_0.heap.get? b = some o ∧ X.H_0 b = none
  bsz : X.base.objs.size ≤ X.s_0.heap.objs.size
  noex : ∀ b o, X.base.get? b = some o → b ∉ X.ex
  exfs : ∀ b ∈ X.ex, b ∉ X.fs
  funs : X.s_0.heap.FunFrames X.base X.outer
  frf : ∀ b ∈ X.fs, X.H_0 b = none
structure Inv (X : Cx) (pins : List (Addr × Obj)) (σ : List (Option V)) (H : Hp) (s : Shared) : Prop where
  ok : X.Ok
  os : s.os = X.s_0.os
  bare : AllBare s.gens
  base : Un X.fs X.ex X.H_0 H X.s_0.heap s.heap
  loc : ∃ m, s.heap.Ns X.env.locals m ∧ ∀ (i : Nat) (x : Str) (v : V), X.N[i]? = some x → σ[i]? = some (some v) → Vis X.env.scope x → ∃ u, RelV v u ∧ Look X.env s.heap m x u
  cell : ∀ x c, X.env.cells.lookup x = some c → ∃ v, s.heap.IsCell c v
  free : H X.env.locals = none
  freeC : ∀ x c, X.env.cells.lookup x = some c → H c = none
  pin : ∀ p ∈ X.pn ++ pins, s.heap.get? p.1 = some p.2 ∧ H p.1 = none ∧ p.1 ≠ X.env.locals ∧ p.1 ∉ X.fs ∧ ∀ v, p.2.data ≠ .cell v
  hok : HOk X.prog X.w H s.heap
  len : σ.length = X.N.length
section
variable {X : Cx} {pins : List (Addr × Obj)} {σ : List (Option V)} {H H' : Hp} {s : Shared} {h' : Heap}
theorem Cx.Ok.nofr (ok : X.Ok) {b : Addr} {o : Obj} (e : X.base.get? b = some o) : b ∉ X.fs := fun hb => by
  have := (ok.funs.mem hb).1
  rw [e] at this; cases this
theorem Inv.bs (I : Inv X pins σ H s) : ∀ b o, X.base.get? b = some o → s.heap.get? b = some o ∧ H b = none := fun b o e =>
  ⟨I.base.keep b o (I.ok.bs b o e).1 (I.ok.bs b o e).2 (I.ok.nofr e) (I.ok.noex b o e), I.base.free b o (I.ok.bs b o e).1 (I.ok.bs b o e).2 (I.ok.noex b o e)⟩
theorem Inv.bk (I : Inv X pins σ H s) : ∀ b o, X.base.get? b = some o → s.heap.get? b = some o := fun b o e => (I.bs b o e).1
theorem Inv.mod (I : Inv X pins σ H s) : Mod X.K X.mg X.base := I.ok.mod
theorem Inv.kIn (I : Inv X pins σ H s) : X.K.In s.heap := I.ok.mod.kin.keeps I.bk
theorem Inv.lt (I : Inv X pins σ H s) : X.env.locals < s.heap.objs.size := let ⟨_, hn, _⟩ := I.loc; hn.lt
theorem Inv.sz (I : Inv X pins σ H s) : X.s_0.heap.objs.size ≤ s.heap.objs.size := Nat.le_trans I.ok.above (Nat.le_of_lt I.lt)
theorem Inv.nofs (I : Inv X pins σ H s) {a : Addr} (h : s.heap.objs.size ≤ a) : a ∉ X.fs := fun hb => by
  obtain ⟨_, o, ho, _⟩ := I.ok.funs.mem hb
  exact absurd (Nat.lt_of_lt_of_le (Heap.lt_size ho) (Nat.le_trans I.sz h)) (Nat.lt_irrefl _)
theorem Inv.cne (I : Inv X pins σ H s) : ∀ x c, X.env.cells.lookup x = some c → c ≠ X.env.locals := fun x c e z => by
  obtain ⟨v, o, ho, hd⟩ := I.cell x c e
  obtain ⟨m, ⟨o', es, ep, ho', hd', _⟩, _⟩ := I.loc
  rw [z, ho'] at ho; cases ho; rw [hd'] at hd; cases hd
theorem Inv.funs (I : Inv X pins σ H s) : s.heap.FunFrames X.base X.outer := by
  have all : ∀ (l : List Env), (∀ b ∈ frs l, b ∈ X.fs) → X.s_0.heap.FunFrames X.base l → s.heap.FunFrames X.base l := by
    intro l
    induction l with
    | nil => intro _ _; trivial
    | cons env r ih =>
      intro hs hl
      obtain ⟨hk, ⟨L, o, hf, hn, ho, hd⟩, hr⟩ := hl
      have hL : L ∈ X.fs := hs L (by unfold frs; rw [List.filterMap_cons, hf]; exact List.mem_cons_self)
      obtain ⟨sl, e⟩ := I.base.slot L o ho (I.ok.frf L hL) hL fun z => I.ok.exfs L z hL
      exact ⟨hk, ⟨L, _, hf, hn, e, hd⟩, ih (fun b hb => hs b (by unfold frs; rw [List.filterMap_cons, hf]; exact List.mem_cons_of_mem _ hb)) hr⟩
  exact all X.outer (fun _ hb => hb) I.ok.funs
theorem Inv.stack (I : Inv X pins σ H s) : s.heap.FunFrames X.base X.stack := by
  rcases I.ok.stk with e | ⟨e, hf⟩
  · rw [e]; exact I.funs
  · rw [e]
    obtain ⟨m, hn, _⟩ := I.loc
    refine .cons (by rw [I.ok.kind]; decide) hf hn ?_ I.funs
    exact Heap.get?_none_of_le (Nat.le_trans I.ok.bsz I.ok.above)
theorem Inv.stkSub (I : Inv X pins σ H s) : ∀ b ∈ frs X.stack, b ∈ X.env.locals :: X.fs := fun b hb => by
  rcases I.ok.stk with e | ⟨e, hf⟩
  · rw [e] at hb; exact List.mem_cons_of_mem _ hb
  · rw [e] at hb
    unfold frs at hb
    rw [List.filterMap_cons, hf] at hb
    exact hb
theorem Inv.stkFree (I : Inv X pins σ H s) : ∀ b ∈ frs X.stack, H b = none := fun b hb => by
  rcases List.mem_cons.mp (I.stkSub b hb) with e | hb
  · rw [e]; exact I.free
  · obtain ⟨_, o, ho, _⟩ := I.ok.funs.mem hb
    exact I.base.free b o ho (I.ok.frf b hb) fun z => I.ok.exfs b z hb
theorem Inv.step {g' : Array GenState} {t' : Nat} {d' : Drawn} {ch : List Addr} (I : Inv X pins σ H s)
    (hch : ∀ b ∈ ch, (b ∈ X.ex ∨ X.s_0.heap.objs.size ≤ b) ∧ b ≠ X.env.locals ∧ (∀ x c, X.env.cells.lookup x = some c → c ≠ b) ∧ ∀ p ∈ X.pn ++ pins, p.1 ≠ b)
    (keep : ∀ b o, b ≠ X.env.locals → b ∉ X.fs → b ∉ ch → s.heap.get? b = some o → H b = none → h'.get? b = some o)
    (slot : ∀ b o, b ≠ X.env.locals → b ∈ X.fs → b ∉ ch → s.heap.get? b = some o → H b = none → ∃ sl, h'.get? b = some { o with slots := sl }) (free : ∀ b o, b ∉ ch → s.heap.get? b = some o → H b = none → H' b = none)
    (there : ∀ b o, b ∉ ch → s.heap.get? b = some o → ∃ o', h'.get? b = some o')
    (tups : ∀ b xs, H b = some (.tup xs) → H' b = some (.tup xs)) (frzs : ∀ b o u, H b = some (.frz o u) → H' b = some (.frz o u)) (tbls : ∀ b ps, H b = some (.tbl ps) → ∃ more, H' b = some (.tbl (ps ++ more)))
    (ns : ∀ m, s.heap.Ns X.env.locals m → h'.Ns X.env.locals m) (hok : HOk X.prog X.w H' h') (hg : AllBare g') :
    Inv X pins σ H' { s with heap := h', gens := g', drawn := d', toks := t' } := by
  have neL : ∀ b o, X.s_0.heap.get? b = some o → b ≠ X.env.locals := fun b o e => Nat.ne_of_lt (Nat.lt_of_lt_of_le (Heap.lt_size e) I.ok.above)
  have neC : ∀ b o, X.s_0.heap.get? b = some o → b ∉ X.ex → b ∉ ch := fun b o e hx hb => by
    rcases (hch b hb).1 with z | z
    · exact hx z
    · exact absurd (Nat.lt_of_lt_of_le (Heap.lt_size e) z) (Nat.lt_irrefl _)
  have cellK : ∀ x c, X.env.cells.lookup x = some c → ∀ v, s.heap.IsCell c v → h'.IsCell c v := fun x c e v ⟨o, ho, hd⟩ => by
    have nch : c ∉ ch := fun z => (hch c z).2.2.1 x c e rfl
    by_cases hc : c ∈ X.fs
    · obtain ⟨sl, q⟩ := slot c o (I.cne x c e) hc nch ho (I.freeC x c e)
      exact ⟨_, q, hd⟩
    · exact ⟨o, keep c o (I.cne x c e) hc nch ho (I.freeC x c e), hd⟩
  refine ⟨I.ok, I.os, hg, ⟨fun b o e n hb hx => ?_, fun b o e n hb hx => ?_, fun b o e n hx => ?_, fun b o e hx => ?_, fun b xs e => tups b xs (I.base.tups b xs e), fun b o xs e => frzs b o xs (I.base.frzs b o xs e), fun b ps e => ?_⟩, ?_, fun x c e => ?_, ?_, fun x c e => ?_, fun p hp => ?_, hok, I.len⟩
  · exact keep b o (neL b o e) hb (neC b o e hx) (I.base.keep b o e n hb hx) (I.base.free b o e n hx)
  · obtain ⟨sl, e1⟩ := I.base.slot b o e n hb hx
    obtain ⟨sl', e2⟩ := slot b _ (neL b o e) hb (neC b o e hx) e1 (I.base.free b o e n hx)
    exact ⟨sl', e2⟩
  · obtain ⟨o', e1⟩ := I.base.there b o e hx
    exact free b o' (neC b o e hx) e1 (I.base.free b o e n hx)
  · obtain ⟨o', e1⟩ := I.base.there b o e hx
    exact there b o' (neC b o e hx) e1
  · obtain ⟨m1, e1⟩ := I.base.tbls b ps e
    obtain ⟨m2, e2⟩ := tbls b _ e1
    exact ⟨m1 ++ m2, by rw [e2, Array.append_assoc]⟩
  · obtain ⟨m, hn, hl⟩ := I.loc
    refine ⟨m, ns m hn, fun i x v e1 e2 e3 => ?_⟩
    obtain ⟨u, r, l⟩ := hl i x v e1 e2 e3
    refine ⟨u, r, ?_⟩
    rcases l with l | ⟨k, c, e, z⟩
    · exact .inl l
    · exact .inr ⟨k, c, e, cellK x c e _ z⟩
  · obtain ⟨v, z⟩ := I.cell x c e
    exact ⟨v, cellK x c e v z⟩
  · obtain ⟨m, ⟨o, _, _, ho, _⟩, _⟩ := I.loc
    exact free _ o (fun z => (hch _ z).2.1 rfl) ho I.free
  · obtain ⟨v, o, ho, hd⟩ := I.cell x c e
    exact free c o (fun z => (hch c z).2.2.1 x c e rfl) ho (I.freeC x c e)
  · obtain ⟨e, n, ne, nf, d⟩ := I.pin p hp
    have nch : p.1 ∉ ch := fun z => (hch p.1 z).2.2.2 p hp rfl
    exact ⟨keep p.1 p.2 ne nf nch e n, free p.1 p.2 nch e n, ne, nf, d⟩
theorem Inv.un {t' : Nat} (I : Inv X pins σ H s) (u : Un X.fs [] H H' s.heap h') (hok : HOk X.prog X.w H' h') : Inv X pins σ H' { s with heap := h', toks := t' } := by
  obtain ⟨m, ⟨o, es, ep, ho, r⟩, _⟩ := id I.loc
  obtain ⟨sl, hL⟩ := u.any ho I.free (by simp)
  exact I.step (g' := s.gens) (d' := s.drawn) (ch := []) (fun _ z => nomatch z) (fun b o _ hb _ e n => u.keep b o e n hb (by simp)) (fun b o _ hb _ e n => u.slot b o e n hb (by simp)) (fun b o _ e n => u.free b o e n (by simp)) (fun b o _ e => u.there b o e (by simp)) u.tups u.frzs u.tbls (fun m' hm => by
    obtain ⟨o', es', ep', ho', r'⟩ := hm
    rw [ho] at ho'; cases ho'
    exact ⟨_, es', ep', hL, r'⟩) hok I.bare
theorem Inv.call {g' : Array GenState} {t' : Nat} {d' : Drawn} {ch : List Addr} (I : Inv X pins σ H s) (u : Un (frs X.stack) ch H H' s.heap h') (hok : HOk X.prog X.w H' h') (hg : AllBare g')
    (hch : ∀ b ∈ ch, (b ∈ X.ex ∨ X.s_0.heap.objs.size ≤ b) ∧ b ≠ X.env.locals ∧ (∀ x c, X.env.cells.lookup x = some c → c ≠ b) ∧ ∀ p ∈ X.pn ++ pins, p.1 ≠ b) :
    Inv X pins σ H' { s with heap := h', gens := g', drawn := d', toks := t' } := by
  obtain ⟨m, ⟨o, es, ep, ho, r⟩, _⟩ := id I.loc
  obtain ⟨sl, hL⟩ := u.any ho I.free fun z => (hch _ z).2.1 rfl
  exact I.step (ch := ch) hch (fun b o hL hb hc e n => u.keep b o e n (fun z => (List.mem_cons.mp (I.stkSub b z)).elim hL hb) hc) (fun b o _ _ hc e n => u.any e n hc) (fun b o hc e n => u.free b o e n hc) (fun b o hc e => u.there b o e hc) u.tups u.frzs u.tbls (fun m' hm => by
    obtain ⟨o', es', ep', ho', r'⟩ := hm
    rw [ho] at ho'; cases ho'
    exact ⟨_, es', ep', hL, r'⟩) hok hg
theorem Inv.turned {t' : Nat} {it : Addr} (I : Inv X pins σ H s) (k : ∀ b o, b ≠ it → s.heap.get? b = some o → h'.get? b = some o) (hn : H it = none) (hL : it ≠ X.env.locals)
    (h1 : it ∈ X.ex ∨ X.s_0.heap.objs.size ≤ it) (h2 : ∀ x c, X.env.cells.lookup x = some c → c ≠ it) (h3 : ∀ p ∈ X.pn ++ pins, p.1 ≠ it) : Inv X pins σ H { s with heap := h', toks := t' } := by
  have nit : ∀ b u, H b = some u → b ≠ it := fun b u e z => by rw [z, hn] at e; cases e
  refine I.step (g' := s.gens) (d' := s.drawn) (ch := [it]) (fun b hb => ?_) (fun b o _ _ hc e _ => k b o (fun z => hc (by simp [z])) e) (fun b o _ _ hc e _ => ⟨o.slots, k b o (fun z => hc (by simp [z])) e⟩) (fun _ _ _ _ n => n)
    (fun b o hc e => ⟨o, k b o (fun z => hc (by simp [z])) e⟩) (fun _ _ e => e) (fun _ _ _ e => e) (fun b ps e => ⟨#[], by rw [e]; simp⟩) (fun m hm => ?_) (fun b u e => ?_) I.bare
  · have e : b = it := by simpa using hb
    subst e
    exact ⟨h1, hL, h2, h3⟩
  · obtain ⟨o, es, ep, ho, r⟩ := hm
    exact ⟨o, es, ep, k _ o (Ne.symm hL) ho, r⟩
  · refine (I.hok b u e).stay (fun c v hc q => k c v ?_ q) (fun _ q => q) fun _ _ q => q
    rcases hc with z | z
    · rw [z]; exact nit b u e
    · exact nit c _ z
theorem Inv.tok (I : Inv X pins σ H s) (t : Nat) : Inv X pins σ H { s with toks := t } := I.un (h' := s.heap) (t' := t) Un.refl I.hok
theorem Inv.kept {t' : Nat} (I : Inv X pins σ H s) (k : ∀ b u, s.heap.get? b = some u → h'.get? b = some u) : Inv X pins σ H { s with heap := h', toks := t' } := I.un (Un.kept k) (I.hok.kept k)
theorem Inv.laid {a : Addr} {o : HO} {t' : Nat} (I : Inv X pins σ H s) (k : ∀ b u, s.heap.get? b = some u → h'.get? b = some u) (hp : s.heap.objs.size ≤ a) (new : ObjOk X.prog X.w (upd H a o) h' a o) :
    Inv X pins σ (upd H a o) { s with heap := h', toks := t' } := I.un (Un.laid k hp (I.hok.fresh hp)) (I.hok.laid k hp new)
theorem Inv.write {x e : Addr} {o : HO} {t' : Nat} (I : Inv X pins σ H s) (mu : Mut (H x)) (he : e = x ∨ H e = some (.own x)) (k : ∀ b u, b ≠ e → s.heap.get? b = some u → h'.get? b = some u) (heo : ∃ u, h'.get? e = some u)
    (new : ObjOk X.prog X.w (upd H x o) h' x o) : Inv X pins σ (upd H x o) { s with heap := h', toks := t' } := I.un (Un.write mu he k heo) (I.hok.write mu he k heo new)
theorem Inv.weak {σ' : List (Option V)} (I : Inv X pins σ H s) (hl : σ'.length = σ.length) (w : ∀ (i : Nat) v, σ'[i]? = some (some v) → σ[i]? = some (some v)) : Inv X pins σ' H s :=
  ⟨I.ok, I.os, I.bare, I.base, let ⟨m, hn, hl'⟩ := I.loc; ⟨m, hn, fun i x v e1 e2 e3 => hl' i x v e1 (w i v e2) e3⟩, I.cell, I.free, I.freeC, I.pin, I.hok, hl.trans I.len⟩
theorem Inv.pins_of {pins' : List (Addr × Obj)} (I : Inv X pins σ H s) (h : ∀ p ∈ pins', s.heap.get? p.1 = some p.2 ∧ H p.1 = none ∧ p.1 ≠ X.env.locals ∧ p.1 ∉ X.fs ∧ ∀ v, p.2.data ≠ .cell v) : Inv X pins' σ H s :=
  ⟨I.ok, I.os, I.bare, I.base, I.loc, I.cell, I.free, I.freeC, fun p hp => (List.mem_append.mp hp).elim (fun z => I.pin p (List.mem_append_left _ z)) (h p), I.hok, I.len⟩
theorem nodup_ix {N : List Str} (hN : N.Nodup) {i j : Nat} {x : Str} (a : N[i]? = some x) (b : N[j]? = some x) : i = j := by
  obtain ⟨h1, e1⟩ := List.getElem?_eq_some_iff.mp a
  obtain ⟨h2, e2⟩ := List.getElem?_eq_some_iff.mp b
  exact (List.getElem_inj hN).mp (e1.trans e2.symm)
theorem store_ok2 {M : Model} {A : Around} {E : Value → Shared → Prop} {i : Nat} {x : Str} {v : V} {u : Value} {Q : Unit → Shared → Prop} (I : Inv X pins σ H s) (hN : X.N.Nodup) (hi : X.N[i]? = some x) (hx : Loc X.env.scope x) (r : RelV v u)
    (h : ∀ s', Inv X pins (σ.set i (some v)) H s' → (∃ a, Heap.SameBut a s.heap s'.heap ∧ (a = X.env.locals ∨ X.env.cells.lookup x = some a)) → Q () s') (hf : X.fn x = true ∨ X.env.scope.names.lookup x = some .local := by first | exact .inl rfl | exact .inr rfl | assumption) : wpAny M A (storeName X.env x u) Q E s := by
  obtain ⟨m, hn, hl⟩ := id I.loc
  have hcls : (X.env.scope.kind == .class || (X.env.scope.kind == .module && X.env.locals != X.env.globals)) = false := by rw [I.ok.kind]; rfl
  have hiσ : i < σ.length := by rw [I.len]; exact (List.getElem?_eq_some_iff.mp hi).1
  have cne := I.cne
  have tracked : ∀ {a : Addr} {h' : Heap}, (∃ o, s.heap.get? a = some o ∧ H a = none) → Heap.SameBut a s.heap h' → HOk X.prog X.w H h' := fun {a h'} ha hs b ob e => by
    obtain ⟨_, _, hfree⟩ := ha
    refine (I.hok b ob e).stay (fun c w' hc q => (hs.2 c ?_).trans q) (fun _ q => q) fun _ _ q => q
    rintro rfl
    rcases hc with rfl | hc
    · rw [hfree] at e; cases e
    · rw [hfree] at hc; cases hc
  rcases hx with hk | hk
  · refine wpAny_storeName_local hk hn (fun h' hn' hs => ?_) hcls
    obtain ⟨oL, _, _, hoL, _⟩ := id hn
    refine h _ ⟨I.ok, I.os, I.bare, ⟨fun b o e n hb hx => ?_, fun b o e n hb hx => ?_, I.base.free, fun b o e hx => ?_, I.base.tups, I.base.frzs, I.base.tbls⟩, ⟨_, hn', fun j y v' e1 e2 e3 => ?_⟩, fun y c e => ?_, I.free, I.freeC, fun p hp => ?_, tracked ⟨oL, hoL, I.free⟩ hs, by simpa using I.len⟩ ⟨_, hs, .inl rfl⟩
    · exact (hs.2 b (Nat.ne_of_lt (Nat.lt_of_lt_of_le (Heap.lt_size e) I.ok.above))).trans (I.base.keep b o e n hb hx)
    · obtain ⟨sl, e1⟩ := I.base.slot b o e n hb hx
      exact ⟨sl, (hs.2 b (Nat.ne_of_lt (Nat.lt_of_lt_of_le (Heap.lt_size e) I.ok.above))).trans e1⟩
    · obtain ⟨o', e1⟩ := I.base.there b o e hx
      exact ⟨o', (hs.2 b (Nat.ne_of_lt (Nat.lt_of_lt_of_le (Heap.lt_size e) I.ok.above))).trans e1⟩
    · by_cases hj : j = i
      · subst hj
        rw [hi] at e1; cases e1
        rw [List.getElem?_set_self hiσ] at e2
        cases e2
        exact ⟨u, r, .inl ⟨hk, by simp⟩⟩
      · rw [List.getElem?_set_ne (Ne.symm hj)] at e2
        obtain ⟨u', r', q⟩ := hl j y v' e1 e2 e3
        refine ⟨u', r', ?_⟩
        rcases q with ⟨k, e⟩ | ⟨k, c, e, z⟩
        · refine .inl ⟨k, ?_⟩
          have : y ≠ x := fun e => hj (nodup_ix hN e1 (e ▸ hi))
          simp [this, e]
        · exact .inr ⟨k, c, e, z.sameBut hs (cne y c e)⟩
    · obtain ⟨w', z⟩ := I.cell y c e
      exact ⟨w', z.sameBut hs (cne y c e)⟩
    · obtain ⟨e, n, ne, nf, d⟩ := I.pin p hp
      exact ⟨(hs.2 p.1 ne).trans e, n, ne, nf, d⟩
  · have hfn : X.fn x = true := by
      rcases hf with z | z
      · exact z
      · rw [z] at hk; cases hk
    obtain ⟨c, hc⟩ := I.ok.has x (.inl hk)
    obtain ⟨w', z⟩ := I.cell x c hc
    refine wpAny_storeName_cell I.ok.kind hk hc z (fun h' hc' hs => ?_)
    obtain ⟨oc, hoc, hocd⟩ := id z
    refine h { s with heap := h' } ⟨I.ok, I.os, I.bare, ⟨fun b o e n hb hx => ?_, fun b o e n hb hx => ?_, I.base.free, fun b o e hx => ?_, I.base.tups, I.base.frzs, I.base.tbls⟩, ⟨m, hn.sameBut hs (Ne.symm (cne x c hc)), fun j y v' e1 e2 e3 => ?_⟩, fun y c' e => ?_, I.free, I.freeC, fun p hp => ?_, tracked ⟨oc, hoc, I.freeC x c hc⟩ hs, by simpa using I.len⟩ ⟨c, hs, .inr hc⟩
    · exact (hs.2 b (Nat.ne_of_lt (Nat.lt_of_lt_of_le (Heap.lt_size e) (I.ok.cab x c hfn hc)))).trans (I.base.keep b o e n hb hx)
    · obtain ⟨sl, e1⟩ := I.base.slot b o e n hb hx
      exact ⟨sl, (hs.2 b (Nat.ne_of_lt (Nat.lt_of_lt_of_le (Heap.lt_size e) (I.ok.cab x c hfn hc)))).trans e1⟩
    · obtain ⟨o', e1⟩ := I.base.there b o e hx
      exact ⟨o', (hs.2 b (Nat.ne_of_lt (Nat.lt_of_lt_of_le (Heap.lt_size e) (I.ok.cab x c hfn hc)))).trans e1⟩
    · by_cases hj : j = i
      · subst hj
        rw [hi] at e1; cases e1
        rw [List.getElem?_set_self hiσ] at e2
        cases e2
        exact ⟨u, r, .inr ⟨.inl hk, c, hc, hc'⟩⟩
      · rw [List.getElem?_set_ne (Ne.symm hj)] at e2
        obtain ⟨u', r', q⟩ := hl j y v' e1 e2 e3
        refine ⟨u', r', ?_⟩
        rcases q with q | ⟨k, c', e, z'⟩
        · exact .inl q
        · refine .inr ⟨k, c', e, z'.sameBut hs ?_⟩
          rintro rfl
          exact hj (nodup_ix hN e1 (I.ok.inj _ _ _ e hc ▸ hi))
    · by_cases hcc : c' = c
      · subst hcc; exact ⟨_, hc'⟩
      · obtain ⟨w2, z2⟩ := I.cell y c' e
        exact ⟨w2, z2.sameBut hs hcc⟩
    · obtain ⟨e, n, ne, nf, d⟩ := I.pin p hp
      refine ⟨(hs.2 p.1 ?_).trans e, n, ne, nf, d⟩
      intro q
      rw [q, hoc] at e
      have q' : oc = p.2 := Option.some.inj e
      exact d w' (by rw [← q']; exact hocd)
theorem store_ok {M : Model} {A : Around} {E : Value → Shared → Prop} {i : Nat} {x : Str} {v : V} {u : Value} {Q : Unit → Shared → Prop} (I : Inv X pins σ H s) (hN : X.N.Nodup) (hi : X.N[i]? = some x) (hx : Loc X.env.scope x) (r : RelV v u)
    (h : ∀ s', Inv X pins (σ.set i (some v)) H s' → Q () s') (hf : X.fn x = true ∨ X.env.scope.names.lookup x = some .local := by first | exact .inl rfl | exact .inr rfl | assumption) : wpAny M A (storeName X.env x u) Q E s :=
  store_ok2 I hN hi hx r (fun s' I' _ => h s' I') hf
theorem Inv.call' {s' : Shared} {ch : List Addr} (I : Inv X pins σ H s) (ho : s'.os = s.os) (u : Un (frs X.stack) ch H H' s.heap s'.heap) (hok : HOk X.prog X.w H' s'.heap) (hg : AllBare s'.gens)
    (hch : ∀ b ∈ ch, (b ∈ X.ex ∨ X.s_0.heap.objs.size ≤ b) ∧ b ≠ X.env.locals ∧ (∀ x c, X.env.cells.lookup x = some c → c ≠ b) ∧ ∀ p ∈ X.pn ++ pins, p.1 ≠ b) : Inv X pins σ H' s' := by
  obtain ⟨h', g', d', t', o'⟩ := s'
  have e : o' = s.os := ho
  subst e
  exact I.call (g' := g') (t' := t') (d' := d') u hok hg hch
end
abbrev XK := Value → Option Addr → Hp → Prop
abbrev St := List (Option V)
abbrev VK := V → Hp → Prop
abbrev TE := St → Hp → VK → Prop
abbrev TT := St → Hp → (Bool → Hp → Prop) → Prop
abbrev TA := St → Hp → (List V → Hp → Prop) → Prop
structure Ends where
  nx : St → Hp → Prop
  rt : VK
  bk : St → Hp → Prop := fun _ _ => False
  ct : St → Hp → Prop := fun _ _ => False
abbrev TS := Ends → St → Hp → Prop
def EP (X : Cx) (pins : List (Addr × Obj)) (σ : St) (Q : VK) (u : Value) (s' : Shared) : Prop := ∃ v H', Inv X pins σ H' s' ∧ RelV v u ∧ Q v H'
def TP (X : Cx) (pins : List (Addr × Obj)) (σ : St) (Q : Bool → Hp → Prop) (b : Bool) (s' : Shared) : Prop := ∃ H', Inv X pins σ H' s' ∧ Q b H'
def AP (X : Cx) (pins : List (Addr × Obj)) (σ : St) (Q : List V → Hp → Prop) (us : List Value) (s' : Shared) : Prop := ∃ vs H', Inv X pins σ H' s' ∧ Vals vs us ∧ Q vs H'
def SP (X : Cx) (pins : List (Addr × Obj)) (D : Ends) (f : Flow) (s' : Shared) : Prop :=
  match f with
  | .next => ∃ σ' H', Inv X pins σ' H' s' ∧ D.nx σ' H'
  | .brk => ∃ σ' H', Inv X pins σ' H' s' ∧ D.bk σ' H'
  | .cont => ∃ σ' H', Inv X pins σ' H' s' ∧ D.ct σ' H'
  | .ret u => ∃ v σ' H', Inv X pins σ' H' s' ∧ RelV v u ∧ D.rt v H'
def PE (X : Cx) (e : Expr) (t : TE) : Prop :=
  ∀ (pins : List (Addr × Obj)) (s : Shared) (σ : St) (H : Hp) (Q : VK), Inv X pins σ H s → t σ H Q → wpAny (model X.prog X.w) X.A (eval e X.env) (EP X pins σ Q) X.xe s
def PT (X : Cx) (e : Expr) (t : TT) : Prop :=
  ∀ (pins : List (Addr × Obj)) (s : Shared) (σ : St) (H : Hp) (Q : Bool → Hp → Prop), Inv X pins σ H s → t σ H Q → wpAny (model X.prog X.w) X.A (isTrue e X.env (eval e X.env)) (TP X pins σ Q) X.xe s
def PW (X : Cx) (e : Expr) (t : TT) : Prop :=
  ∀ (whole : Sem Value) (pins : List (Addr × Obj)) (s : Shared) (σ : St) (H : Hp) (Q : Bool → Hp → Prop), Inv X pins σ H s → t σ H Q → wpAny (model X.prog X.w) X.A (isTrue e X.env whole) (TP X pins σ Q) X.xe s
theorem PW.pt {X : Cx} {e : Expr} {t : TT} (h : PW X e t) : PT X e t := h _
def PA (X : Cx) (es : List Expr) (t : TA) : Prop :=
  ∀ (pos : Pos) (pins : List (Addr × Obj)) (s : Shared) (σ : St) (H : Hp) (Q : List V → Hp → Prop), Inv X pins σ H s → t σ H Q → wpAny (model X.prog X.w) X.A (spliced (backTo pos (starEach es X.env))) (AP X pins σ Q) X.xe s
def PS (X : Cx) (st : Stmt) (t : TS) : Prop :=
  ∀ (pins : List (Addr × Obj)) (s : Shared) (σ : St) (H : Hp) (D : Ends), Inv X pins σ H s → t D σ H → wpAny (model X.prog X.w) X.A (exec st X.env) (SP X pins D) X.xe s
def PSs (X : Cx) (st : List Stmt) (t : TS) : Prop :=
  ∀ (pins : List (Addr × Obj)) (s : Shared) (σ : St) (H : Hp) (D : Ends), Inv X pins σ H s → t D σ H → wpAny (model X.prog X.w) X.A (execs st X.env) (SP X pins D) X.xe s
theorem thn {α : Type} {t : Sem α} {Q Q' : α → Shared → Prop} {M : Model} {A : Around} {E : Value → Shared → Prop} {s : Shared} (h : wpAny M A t Q E s) (hQ : ∀ a s, Q a s → Q' a s) : wpAny M A t Q' E s := wpAny_mono h hQ fun _ _ x => x
end L2
namespace L2
open PySem PySem.Spec PyProof.Rows
section
variable {X : Cx}
def tVar (i : Nat) : TE := fun σ H Q => ∃ v, σ[i]? = some (some v) ∧ Q v H
def tC (v : V) : TE := fun _ H Q => Q v H
theorem pe_var {i : Nat} {x : Str} {pos : Pos} (hN : X.N[i]? = some x) (hv : Vis X.env.scope x) (hd : (x == ("__debug__" : Str)) = false := by decide) (hcd : (x == ("__classdict__" : Str)) = false := by decide) : PE X (.Name x pos) (tVar i) := by
  intro pins s σ H Q I h
  obtain ⟨v, e, h⟩ := h
  obtain ⟨m, hn, hl⟩ := I.loc
  obtain ⟨u, r, l⟩ := hl i x v hN e hv
  have fin : EP X pins σ Q u s := ⟨v, H, I, r, h⟩
  rcases l with ⟨hk, hm⟩ | ⟨hk, c, hc, hcell⟩
  · exact wpAny_Name (wpAny_loadName_local I.ok.kind hk hn hm fin) hd
  · rcases hk with hk | hk
    · exact wpAny_Name (wpAny_loadName_cell I.ok.kind hk hc hcell fin) hd
    · exact wpAny_Name (wpAny_loadName_free I.ok.kind hk hc hcell fin hcd) hd
theorem pe_int {i j pos} : PE X (.Constant (.int i) j pos) (tC (.int i)) := fun _ _ _ H _ I h => wpAny_Constant_int ⟨.int i, H, I.tok _, ⟨_, rfl⟩, h⟩
theorem pe_bl {b j pos} : PE X (.Constant (.bool b) j pos) (tC (.bl b)) := fun _ _ _ H _ I h => Constant_bool ⟨.bl b, H, I, rfl, h⟩
theorem pe_non {j pos} : PE X (.Constant .none j pos) (tC .non) := fun _ _ _ H _ I h => Constant_none ⟨.non, H, I, rfl, h⟩
def Gl (X : Cx) (x : Str) : Prop := X.env.kindOf x = some .globalImplicit
theorem ld_glob {E : Value → Shared → Prop} {pins : List (Addr × Obj)} {s : Shared} {σ : St} {H : Hp} {x : Str} {u : Value} {pos : Pos} {Q : Value → Shared → Prop} (I : Inv X pins σ H s) (hg : Gl X x) (hm : X.mg x = some u) (h : Q u s)
    (hd : (x == ("__debug__" : Str)) = false := by decide) : wpAny (model X.prog X.w) X.A (eval (.Name x pos) X.env) Q E s :=
  Calls.Name_function_global I.ok.kind hg (Calls.loadGlobal_global (by rw [I.ok.glob]; exact I.mod.glob.keeps I.bk) hm h) hd
theorem ld_blt {E : Value → Shared → Prop} {pins : List (Addr × Obj)} {s : Shared} {σ : St} {H : Hp} {x : Str} {u : Value} {pos : Pos} {Q : Value → Shared → Prop} (I : Inv X pins σ H s) (hg : Gl X x) (hm : X.mg x = none) (hv : bootBuiltins x = some u) (h : Q u s)
    (hn : x ≠ "__name__" := by decide) (hd : (x == ("__debug__" : Str)) = false := by decide) : wpAny (model X.prog X.w) X.A (eval (.Name x pos) X.env) Q E s := by
  obtain ⟨mb, h1, h2⟩ := I.mod.blt
  exact Calls.Name_function_global I.ok.kind hg (Calls.loadGlobal_builtin (by rw [I.ok.glob]; exact I.mod.glob.keeps I.bk) hm (by rw [I.ok.blt]; exact h1.keeps I.bk) ((h2 x hn).trans hv) h) hd
theorem pe_glob {x : Str} {v : V} {u : Value} {pos : Pos} (hg : Gl X x) (hm : X.mg x = some u) (r : RelV v u) (hd : (x == ("__debug__" : Str)) = false := by decide) : PE X (.Name x pos) (tC v) :=
  fun _ _ _ H _ I h => ld_glob I hg hm ⟨v, H, I, r, h⟩ hd
variable {a b : Expr} {ta tb : TE} {pos : Pos}
def PC (X : Cx) (op : CmpOp) (a b : Expr) (t : TE) : Prop :=
  ∀ (pins : List (Addr × Obj)) (s : Shared) (σ : St) (H : Hp) (Q : VK), Inv X pins σ H s → t σ H Q →
    wpAny (model X.prog X.w) X.A (eval a X.env) (fun v s₁ => wpAny (model X.prog X.w) X.A (eval b X.env) (fun u s₂ => wpAny (model X.prog X.w) X.A (compareOp op v u) (EP X pins σ Q) X.xe s₂) X.xe s₁) X.xe s
theorem nobehind (b : Expr) {op : CmpOp} (h : op ≠ .In) (h2 : op ≠ .NotIn) : behindInMarks op b = false := by
  have e1 : (op == CmpOp.In) = false := by cases op <;> first | rfl | exact absurd rfl h
  have e2 : (op == CmpOp.NotIn) = false := by cases op <;> first | rfl | exact absurd rfl h2
  cases b <;> simp [behindInMarks, e1, e2]
def tNotN (ta : TE) : TE := fun σ H Q => ta σ H fun x H1 => Q (.bl (!decide (x = .non))) H1
theorem RelV.none_iff {x : V} {v : Value} (r : RelV x v) : (v == Value.none) = decide (x = .non) := by
  cases x with
  | non => cases r; rfl
  | bl _ => cases r; rfl
  | int _ => obtain ⟨t, rfl⟩ := r; rfl
  | str _ => obtain ⟨t, rfl⟩ := r; rfl
  | byt _ => obtain ⟨t, rfl⟩ := r; rfl
  | flt _ => obtain ⟨t, rfl⟩ := r; rfl
  | ref _ => cases r; rfl
  | ty _ => cases r; rfl
theorem pc_notN {j pos'} (ha : PE X a ta) : PC X .IsNot a (.Constant .none j pos') (tNotN ta) := by
  intro pins s σ H Q I h
  refine thn (ha pins s σ H _ I h) fun v s1 ⟨x, H1, I1, r1, q1⟩ => ?_
  exact Constant_none (isnot_none_gen ⟨.bl _, H1, I1, by rw [r1.none_iff]; rfl, q1⟩)
def tB (t : TE) : TT := fun σ H Q => t σ H fun x H1 => ∃ c, x = .bl c ∧ Q c H1
theorem pt_cmp {op : CmpOp} {t : TE} (h : PC X op a b t) (h1 : behindInMarks op b = false := by first | exact nobehind _ (by decide) (by decide) | rfl) : PT X (.Compare a [op] [b] pos) (tB t) := by
  intro pins s σ H Q I hw
  refine wpAny_isTrue_Compare1 (thn (h pins s σ H _ I hw) fun v s1 h1 => thn h1 fun u s2 h2 => thn h2 fun c s3 ⟨x, H1, I1, r1, q1⟩ => ?_) h1
  obtain ⟨d, rfl, q⟩ := q1
  cases r1
  exact wpAny_truthy_bool ⟨H1, I1, q⟩
theorem pt_val {e : Expr} {t : TE} (h : PE X e t) (he : ∀ whole, isTrue e X.env whole = (do let v ← whole; standAt e.pos; holding [v] (truthy v)) := by intro _; rfl) : PT X e (tB t) := by
  intro pins s σ H Q I hw
  refine isTrue_plain (thn (h pins s σ H _ I hw) fun v s1 ⟨x, H1, I1, r1, q1⟩ => ?_) (he _)
  obtain ⟨d, rfl, q⟩ := q1
  cases r1
  exact wpAny_truthy_bool ⟨H1, I1, q⟩
variable {tA tB' : TT} {rest : List Expr}
def tOr (t u : TT) : TT := fun σ H Q => t σ H fun c H1 => if c = true then Q true H1 else u σ H1 Q
def tNot (t : TT) : TT := fun σ H Q => t σ H fun c H1 => Q (!c) H1
theorem pw_or1 (ha : PT X a tA) : PW X (.BoolOp .Or [a] pos) tA := by
  intro wh pins s σ H Q I h
  refine isTrue_or (thn (ha pins s σ H Q I h) fun c s1 e => ?_)
  cases c with
  | false => exact isTrue_or_nil e
  | true => exact e
theorem pw_or (ha : PT X a tA) (hb : PW X (.BoolOp .Or (b :: rest) pos) tB') : PW X (.BoolOp .Or (a :: b :: rest) pos) (tOr tA tB') := by
  intro wh pins s σ H Q I h
  refine isTrue_or (thn (ha pins s σ H _ I h) fun c s1 ⟨H1, I1, q1⟩ => ?_)
  cases c with
  | true => exact ⟨H1, I1, q1⟩
  | false => exact hb wh pins s1 σ H1 Q I1 q1
theorem pt_not (ha : PT X a tA) : PT X (.UnaryOp .Not a pos) (tNot tA) := by
  intro pins s σ H Q I h
  exact isTrue_not (ha pins s σ H (fun c H1 => Q (!c) H1) I h)
def tAndV (ta tb : TE) : TE := fun σ H Q => ta σ H fun x H1 => ∃ c, x = .bl c ∧ if c = true then tb σ H1 Q else Q (.bl false) H1
theorem pe_one {op} {t : TE} (h : PE X a t) : PE X (.BoolOp op [a] pos) t := fun pins s σ H Q I hw => BoolOp_one (h pins s σ H Q I hw)
theorem pe_and (ha : PE X a ta) (hb : PE X (.BoolOp .And (b :: rest) pos) tb) : PE X (.BoolOp .And (a :: b :: rest) pos) (tAndV ta tb) := by
  intro pins s σ H Q I h
  refine BoolOp_and (thn (ha pins s σ H _ I h) fun v s1 ⟨x, H1, I1, r1, q1⟩ => ?_)
  obtain ⟨c, rfl, q1⟩ := q1
  cases r1
  refine wpAny_truthy_bool ?_
  cases c with
  | true => exact hb pins s1 σ H1 Q I1 q1
  | false => exact ⟨.bl false, H1, I1, rfl, q1⟩
def tIf (t : TT) (ta tb : TE) : TE := fun σ H Q => t σ H fun c H1 => if c = true then ta σ H1 Q else tb σ H1 Q
theorem pe_ifExp {c : Expr} (hc : PT X c tA) (ha : PE X a ta) (hb : PE X b tb) : PE X (.IfExp c a b pos) (tIf tA ta tb) := by
  intro pins s σ H Q I h
  refine wpAny_IfExp (thn (hc pins s σ H _ I h) fun d s1 ⟨H1, I1, q1⟩ => ?_)
  cases d with
  | true => exact ha pins s1 σ H1 Q I1 q1
  | false => exact hb pins s1 σ H1 Q I1 q1
end
end L2
namespace L2
open PySem PySem.Spec PyProof.Rows
def SqL (K : PySem.W.Frag) (H : Hp) (a : Addr) (xs : List V) : Prop :=
  Rd H a (.lst xs) ∨
    ∃ (o : Obj) (its : Array Value) (n : Nat), K.lookup a = some o ∧ o.cls = .type "list" ∧ o.dict = none ∧ o.data = .seq its n ∧ its.size ≤ sizeLine ∧ Vals xs its.toList
def SqT (K : PySem.W.Frag) (H : Hp) (a : Addr) (xs : List V) : Prop :=
  Rd H a (.tup xs) ∨
    ∃ (o : Obj) (its : Array Value) (n : Nat), K.lookup a = some o ∧ o.cls = .type "tuple" ∧ o.data = .seq its n ∧ its.size ≤ sizeLine ∧ Vals xs its.toList
def absV : Value → Option V
  | .none => some .non
  | .bool b => some (.bl b)
  | .int i _ => some (.int i)
  | .str x _ => some (.str x)
  | .bytes b _ => some (.byt b)
  | .float b _ => some (.flt b)
  | .ref a => some (.ref a)
  | .type n => some (.ty n)
  | _ => none
theorem RelV.abs {x : V} {u : Value} (r : RelV x u) : absV u = some x := by
  cases x with
  | non => cases r; rfl
  | bl _ => cases r; rfl
  | int _ => obtain ⟨t, rfl⟩ := r; rfl
  | str _ => obtain ⟨t, rfl⟩ := r; rfl
  | byt _ => obtain ⟨t, rfl⟩ := r; rfl
  | flt _ => obtain ⟨t, rfl⟩ := r; rfl
  | ref _ => cases r; rfl
  | ty _ => cases r; rfl
theorem RelV.inj {x y : V} {u : Value} (r : RelV x u) (q : RelV y u) : x = y := Option.some.inj (r.abs.symm.trans q.abs)
theorem Vals.inj : ∀ {xs ys : List V} {us : List Value}, Vals xs us → Vals ys us → xs = ys
  | _, _, _, .nil, .nil => rfl
  | _, _, _, .cons r t, .cons r' t' => by rw [r.inj r', Vals.inj t t']
section
variable {X : Cx} {pins : List (Addr × Obj)} {σ : St} {H : Hp} {s : Shared} {a : Addr} {xs ys : List V}
theorem SqL.of {K : PySem.W.Frag} (h : H a = some (.lst xs)) : SqL K H a xs := .inl (.inl h)
theorem SqT.of {K : PySem.W.Frag} (h : H a = some (.tup xs)) : SqT K H a xs := .inl (.inl h)
theorem Inv.list (I : Inv X pins σ H s) (h : SqL X.K H a xs) : ∃ its : List Value, Vals xs its ∧ PlainL s.heap a its.toArray ∧ xs.length ≤ sizeLine := by
  rcases h with h | ⟨o, its, n, hk, hc, hd, hs, hz, r⟩
  · obtain ⟨z, its, n, r, e⟩ := h.ok I.hok
    exact ⟨its, r, ⟨_, n, e, rfl, rfl, rfl⟩, z⟩
  · refine ⟨its.toList, r, ⟨o, n, I.kIn a o hk, hc, hd, by simpa using hs⟩, ?_⟩
    have e := r.length
    simp only [Array.length_toList] at e
    omega
theorem Inv.tuple (I : Inv X pins σ H s) (h : SqT X.K H a xs) : ∃ its : List Value, Vals xs its ∧ IsTup s.heap a its.toArray ∧ xs.length ≤ sizeLine := by
  rcases h with h | ⟨o, its, n, hk, hc, hs, hz, r⟩
  · obtain ⟨z, its, r, p⟩ := h.ok I.hok
    exact ⟨its, r, p, z⟩
  · refine ⟨its.toList, r, ⟨o, I.kIn a o hk, hc, n, by simpa using hs⟩, ?_⟩
    have e := r.length
    simp only [Array.length_toList] at e
    omega
theorem Inv.list_inj (I : Inv X pins σ H s) (h : SqL X.K H a xs) (h' : SqL X.K H a ys) : xs = ys := by
  obtain ⟨its, r, ⟨o, n, e, _, _, d⟩, _⟩ := I.list h
  obtain ⟨its', r', ⟨o', n', e', _, _, d'⟩, _⟩ := I.list h'
  rw [e] at e'; cases e'
  rw [d] at d'
  injection d' with d1 _
  have : its = its' := by simpa using congrArg Array.toList d1
  subst this
  exact r.inj r'
theorem Inv.tuple_inj (I : Inv X pins σ H s) (h : SqT X.K H a xs) (h' : SqT X.K H a ys) : xs = ys := by
  obtain ⟨its, r, ⟨o, e, _, n, d⟩, _⟩ := I.tuple h
  obtain ⟨its', r', ⟨o', e', _, n', d'⟩, _⟩ := I.tuple h'
  rw [e] at e'; cases e'
  rw [d] at d'
  injection d' with d1 _
  have : its = its' := by simpa using congrArg Array.toList d1
  subst this
  exact r.inj r'
end
abbrev Cx.wish (X : Cx) (E : Value → Shared → Prop) : Cx := { X with xe := E }
abbrev Cx.nox (X : Cx) : Cx := X.wish fun _ _ => False
theorem Cx.Ok.wish {X : Cx} (ok : X.Ok) (E : Value → Shared → Prop) : (X.wish E).Ok :=
  ⟨ok.mod, ok.kind, ok.glob, ok.blt, ok.above, ok.inj, ok.has, ok.cab, ok.hd, ok.frames, ok.stk, ok.exf, ok.bs, ok.bsz, ok.noex, ok.exfs, ok.funs, ok.frf⟩
theorem Cx.Ok.unwish {X : Cx} {E : Value → Shared → Prop} (ok : (X.wish E).Ok) : X.Ok :=
  ⟨ok.mod, ok.kind, ok.glob, ok.blt, ok.above, ok.inj, ok.has, ok.cab, ok.hd, ok.frames, ok.stk, ok.exf, ok.bs, ok.bsz, ok.noex, ok.exfs, ok.funs, ok.frf⟩
section
variable {X : Cx} {pins : List (Addr × Obj)} {σ : St} {H : Hp} {s : Shared} {E : Value → Shared → Prop}
theorem Inv.wish (I : Inv X pins σ H s) (E : Value → Shared → Prop) : Inv (X.wish E) pins σ H s := ⟨I.ok.wish E, I.os, I.bare, I.base, I.loc, I.cell, I.free, I.freeC, I.pin, I.hok, I.len⟩
theorem Inv.unwish (I : Inv (X.wish E) pins σ H s) : Inv X pins σ H s := ⟨I.ok.unwish, I.os, I.bare, I.base, I.loc, I.cell, I.free, I.freeC, I.pin, I.hok, I.len⟩
theorem SP.unwish {D : Ends} {f : Flow} {s' : Shared} (h : SP (X.wish E) pins D f s') : SP X pins D f s' := by
  cases f with
  | next => obtain ⟨σ', H', I, q⟩ := h; exact ⟨σ', H', I.unwish, q⟩
  | brk => obtain ⟨σ', H', I, q⟩ := h; exact ⟨σ', H', I.unwish, q⟩
  | cont => obtain ⟨σ', H', I, q⟩ := h; exact ⟨σ', H', I.unwish, q⟩
  | ret u => obtain ⟨v, σ', H', I, r, q⟩ := h; exact ⟨v, σ', H', I.unwish, r, q⟩
theorem PSs.nox {st : List Stmt} {t : TS} (h : PSs X.nox st t) : PSs X st t := fun pins s σ H D I hw =>
  wpAny_mono (h pins s σ H D (I.wish _) hw) (fun _ _ q => q.unwish) fun _ _ z => False.elim z
end
section
variable {X : Cx} {st : Stmt} {rest : List Stmt} {t u : TS} {e : Expr} {te : TE} {pos : Pos}
def tNext : TS := fun D σ H => D.nx σ H
def tSeq (t u : TS) : TS := fun D σ H => t { D with nx := u D } σ H
theorem pss_nil : PSs X [] tNext := fun _ _ σ H _ I h => wpAny_execs_nil ⟨σ, H, I, h⟩
theorem pss_cons (h1 : PS X st t) (h2 : PSs X rest u) : PSs X (st :: rest) (tSeq t u) := by
  intro pins s σ H D I h
  refine wpAny_execs_cons (thn (h1 pins s σ H { D with nx := u D } I h) fun f s1 q => ?_)
  cases f with
  | next =>
    obtain ⟨σ', H', I', q⟩ := q
    exact h2 pins s1 σ' H' D I' q
  | ret v => exact q
  | brk => exact q
  | cont => exact q
theorem pss_one (h1 : PS X st t) : PSs X [st] t := by
  intro pins s σ H D I h
  refine wpAny_execs_cons (thn (h1 pins s σ H D I h) fun f s1 q => ?_)
  cases f with
  | next => exact wpAny_execs_nil q
  | ret v => exact q
  | brk => exact q
  | cont => exact q
theorem Inv.quiet {pins : List (Addr × Obj)} {σ : St} {H : Hp} {s : Shared} (I : Inv X pins σ H s) : interactive X.env = false := by simp [interactive, I.ok.kind]
def tDrop (te : TE) : TS := fun D σ H => te σ H fun _ H1 => D.nx σ H1
theorem ps_expr (he : PE X e te) (hs : swapsWith e none pos.line X.env = pure false := by rfl) : PS X (.Expr e pos) (tDrop te) := by
  intro pins s σ H D I h
  exact wpAny_Expr_any (thn (he pins s σ H _ I h) fun v s1 ⟨x, H1, I1, r1, q1⟩ => ⟨σ, H1, I1, q1⟩) I.quiet hs
def tRet (te : TE) : TS := fun D σ H => te σ H D.rt
theorem ps_ret (he : PE X e te) : PS X (.Return (some e) pos) (tRet te) := by
  intro pins s σ H D I h
  exact wpAny_Return_some (thn (he pins s σ H _ I h) fun v s1 ⟨x, H1, I1, r1, q1⟩ => ⟨x, σ, H1, I1, r1, q1⟩)
def tRetN : TS := fun D _ H => D.rt .non H
theorem ps_retN : PS X (.Return none pos) tRetN := fun _ _ σ H _ I h => wpAny_Return_none ⟨.non, σ, H, I, rfl, h⟩
def tIfS (c : TT) (t u : TS) : TS := fun D σ H => c σ H fun b H1 => if b = true then t D σ H1 else u D σ H1
theorem ps_if {c : Expr} {a b : List Stmt} {tc : TT} (hc : PT X c tc) (ha : PSs X a t) (hb : PSs X b u) : PS X (.If c a b pos) (tIfS tc t u) := by
  intro pins s σ H D I h
  refine wpAny_If (thn (hc pins s σ H _ I h) fun d s1 ⟨H1, I1, q1⟩ => ?_)
  cases d with
  | true => exact ha pins s1 σ H1 D I1 q1
  | false => exact hb pins s1 σ H1 D I1 q1
end
abbrev TG := V → St → Hp → (St → Hp → Prop) → Prop
abbrev TGs := List V → St → Hp → (St → Hp → Prop) → Prop
def PG (X : Cx) (target : Expr) (t : TG) : Prop :=
  ∀ (pins : List (Addr × Obj)) (s : Shared) (σ : St) (H : Hp) (v : V) (u : Value) (Q : St → Hp → Prop), Inv X pins σ H s → RelV v u → t v σ H Q →
    wpAny (model X.prog X.w) X.A (assign target X.env u) (fun _ s' => ∃ σ' H', Inv X pins σ' H' s' ∧ Q σ' H') X.xe s
def PGs (X : Cx) (ts : List Expr) (t : TGs) : Prop :=
  ∀ (pins : List (Addr × Obj)) (s : Shared) (σ : St) (H : Hp) (vs : List V) (us : List Value) (Q : St → Hp → Prop), Inv X pins σ H s → Vals vs us → t vs σ H Q →
    wpAny (model X.prog X.w) X.A (assignInOrder ((assignEach ts X.env).map (·.2)) us) (fun _ s' => ∃ σ' H', Inv X pins σ' H' s' ∧ Q σ' H') X.xe s
abbrev TIp := V → V → Hp → VK → Prop
def PIp (X : Cx) (op : Operator) (t : TIp) : Prop :=
  ∀ (pins : List (Addr × Obj)) (s : Shared) (σ : St) (H : Hp) (x y : V) (v u : Value) (Q : VK), Inv X pins σ H s → RelV x v → RelV y u → t x y H Q →
    wpAny (model X.prog X.w) X.A (inplaceOp op v u) (EP X pins σ Q) X.xe s
section
variable {X : Cx} {pos : Pos}
def gName (i : Nat) : TG := fun v σ H Q => Q (σ.set i (some v)) H
theorem pg_name {i : Nat} {x : Str} (hN : X.N.Nodup) (hi : X.N[i]? = some x) (hx : Loc X.env.scope x) (hf : X.fn x = true ∨ X.env.scope.names.lookup x = some .local := by first | exact .inl rfl | exact .inr rfl | assumption) : PG X (.Name x pos) (gName i) := by
  intro pins s σ H v u Q I r h
  exact wpAny_assign_Name (store_ok I hN hi hx r (fun s' I' => ⟨_, H, I', h⟩) hf)
def gNil : TGs := fun vs σ H Q => vs = [] ∧ Q σ H
def gCons (t : TG) (u : TGs) : TGs := fun vs σ H Q => ∃ v r, vs = v :: r ∧ t v σ H fun σ' H' => u r σ' H' Q
theorem pgs_nil : PGs X [] gNil := by
  intro pins s σ H vs us Q I r h
  obtain ⟨e, h⟩ := h
  subst e
  cases r
  exact assignInOrder_nil ⟨σ, H, I, h⟩
theorem pgs_cons {e : Expr} {es : List Expr} {t : TG} {u : TGs} (h1 : PG X e t) (h2 : PGs X es u)
    (hs : (assignEach (e :: es) X.env).map (·.2) = assign e X.env :: (assignEach es X.env).map (·.2) := by rfl) : PGs X (e :: es) (gCons t u) := by
  intro pins s σ H vs us Q I r h
  obtain ⟨v, vr, e1, h⟩ := h
  subst e1
  cases r with
  | cons r rr =>
    rw [hs]
    refine assignInOrder_cons (thn (h1 pins s σ H _ _ _ I r h) fun _ s1 ⟨σ1, H1, I1, q1⟩ => ?_)
    exact h2 pins s1 σ1 H1 _ _ Q I1 rr q1
def gTup (K : PySem.W.Frag) (n : Nat) (t : TGs) : TG := fun v σ H Q => ∃ a xs, v = .ref a ∧ SqT K H a xs ∧ xs.length = n ∧ t xs σ H Q
theorem pg_tup {es : List Expr} {k : Nat} {t : TGs} {n : Nat} (hc : X.calm = true) (h : PGs X es t)
    (hn : (assignEach es X.env).length = n := by rfl) (hst : (assignEach es X.env).findIdx? (·.1) = none := by rfl) : PG X (.Tuple es k pos) (gTup X.K n t) := by
  intro pins s σ H v u Q I r hw
  obtain ⟨a, xs, e1, hq, hl, hw⟩ := hw
  subst e1
  cases r
  obtain ⟨its, rv, ht, hz⟩ := I.tuple hq
  refine assign_Tuple_tuple (I.ok.hd hc) ht (by simp [hn, ← hl, rv.length]) hst fun h' hx => ?_
  have I1 : Inv X pins σ H { s with heap := h' } := I.kept (t' := s.toks) fun b o e => hx b o (Nat.ne_of_lt (Heap.lt_size e)) e
  exact h pins _ σ H xs _ Q I1 (by simpa using rv) hw
def tAsg (te : TE) (g : TG) : TS := fun D σ H => te σ H fun x H1 => g x σ H1 D.nx
theorem ps_set {i : Nat} {x : Str} {e : Expr} {te : TE} {pos' : Pos} (hN : X.N.Nodup) (hi : X.N[i]? = some x) (hx : Loc X.env.scope x) (he : PE X e te) (hs : swapsWith e (some (.Name x pos')) pos.line X.env = pure false := by rfl) (hf : X.fn x = true ∨ X.env.scope.names.lookup x = some .local := by first | exact .inl rfl | exact .inr rfl | assumption) :
    PS X (.Assign [.Name x pos'] e pos) (tAsg te (gName i)) := by
  intro pins s σ H D I h
  refine wpAny_Assign_Name (thn (he pins s σ H _ I h) fun v s1 ⟨y, H1, I1, r1, q1⟩ => ?_) hs
  exact store_ok I1 hN hi hx r1 (fun s2 I2 => ⟨_, H1, I2, q1⟩) hf
def tAug (i : Nat) (te : TE) (ti : TIp) : TS := fun D σ H => ∃ x, σ[i]? = some (some x) ∧ te σ H fun y H1 => ti x y H1 fun z H2 => D.nx (σ.set i (some z)) H2
theorem ps_aug {i : Nat} {x : Str} {e : Expr} {te : TE} {op : Operator} {ti : TIp} {pos' : Pos} (hN : X.N.Nodup) (hi : X.N[i]? = some x) (hx : Loc X.env.scope x) (he : PE X e te) (ho : PIp X op ti) (hf : X.fn x = true ∨ X.env.scope.names.lookup x = some .local := by first | exact .inl rfl | exact .inr rfl | assumption) :
    PS X (.AugAssign (.Name x pos') op e pos) (tAug i te ti) := by
  intro pins s σ H D I h
  obtain ⟨v, e1, h⟩ := h
  obtain ⟨m, hn, hl⟩ := I.loc
  have vis : Vis X.env.scope x := by rcases hx with k | k; exact .inl k; exact .inr (.inl k)
  obtain ⟨u, r, l⟩ := hl i x v hi e1 vis
  refine wpAny_AugAssign_Name ?_
  have go : wpAny (model X.prog X.w) X.A (eval e X.env) (fun w s₂ => wpAny (model X.prog X.w) X.A (inplaceOp op u w) (fun r s₃ => wpAny (model X.prog X.w) X.A (storeName X.env x r) (fun _ => SP X pins D .next) X.xe s₃) X.xe s₂) X.xe s := by
    refine thn (he pins s σ H _ I h) fun w s1 ⟨y, H1, I1, r1, q1⟩ => ?_
    refine thn (ho pins s1 σ H1 v y u w _ I1 r r1 q1) fun z s2 ⟨zv, H2, I2, r2, q2⟩ => ?_
    exact store_ok I2 hN hi hx r2 (fun s3 I3 => ⟨_, H2, I3, q2⟩) hf
  rcases l with ⟨hk, hm⟩ | ⟨hk, c, hc, hcell⟩
  · exact wpAny_loadName_local I.ok.kind hk hn hm go
  · rcases hk with hk | hk
    · exact wpAny_loadName_cell I.ok.kind hk hc hcell go
    · rcases hx with k | k
      · have : X.env.scope.names.lookup x = some .free := hk
        rw [k] at this; cases this
      · have : X.env.scope.names.lookup x = some .free := hk
        rw [k] at this; cases this
end
section
variable {X : Cx} {pos : Pos}
def tWhile (c : TT) (tb : TS) : TS := fun D σ H => ∃ W : Nat → St → Hp → Prop, (∃ m, W m σ H) ∧ ∀ m σ H, W m σ H →
  c σ H fun b H1 => if b = true then ∃ N : St → Hp → Prop, (∀ σ' H', N σ' H' → ∃ m', m' < m ∧ W m' σ' H') ∧ tb { D with nx := N, ct := N, bk := D.nx } σ H1 else D.nx σ H1
theorem ps_while {c : Expr} {body : List Stmt} {tc : TT} {tb : TS} (hp : PassesOwn (model X.prog X.w) X.A X.env X.xe) (hc : PT X c tc) (hb : PSs X body tb) : PS X (.While c body [] pos) (tWhile tc tb) := by
  intro pins s σ H D I h
  obtain ⟨W, ⟨m0, w0⟩, turn⟩ := h
  refine wpAny_While (codeAny_whileLoop (fun n s' => ∃ σ' H', Inv X pins σ' H' s' ∧ W n σ' H') ?_ m0 ⟨σ, H, I, w0⟩)
  rintro n s1 ⟨σ1, H1, I1, w1⟩
  refine wpAny_passesOwn hp (thn (hc pins s1 σ1 H1 _ I1 (turn n σ1 H1 w1)) fun b s2 ⟨H2, I2, q2⟩ => ?_)
  cases b with
  | true =>
    obtain ⟨N, hN, q2⟩ := q2
    rw [if_pos rfl]
    refine wpAny_passesOwn hp (thn (hb pins s2 σ1 H2 _ I2 q2) fun f s3 q3 => ?_)
    cases f with
    | next =>
      obtain ⟨σ3, H3, I3, n3⟩ := q3
      obtain ⟨m', hm, w3⟩ := hN σ3 H3 n3
      exact ⟨m', hm, σ3, H3, I3, w3⟩
    | cont =>
      obtain ⟨σ3, H3, I3, n3⟩ := q3
      obtain ⟨m', hm, w3⟩ := hN σ3 H3 n3
      exact ⟨m', hm, σ3, H3, I3, w3⟩
    | brk => exact q3
    | ret v => exact q3
  | false =>
    rw [if_neg Bool.false_ne_true]
    exact wpAny_execs_nil ⟨σ1, H2, I2, q2⟩
end
structure It where
  go : Nat → Hp → Prop
  yld : Nat → Hp → V → Hp → Prop
  stop : Nat → Hp → Prop
def FpOk (X : Cx) (pins : List (Addr × Obj)) (H : Hp) (b : Addr) : Prop :=
  H b = none ∧ b ≠ X.env.locals ∧ b ∉ X.fs ∧ (b ∈ X.ex ∨ X.s_0.heap.objs.size ≤ b) ∧ (∀ x c, X.env.cells.lookup x = some c → c ≠ b) ∧ ∀ p ∈ X.pn ++ pins, p.1 ≠ b
theorem Inv.fpOk {X : Cx} {pins : List (Addr × Obj)} {σ : St} {H H' : Hp} {s : Shared} {b : Addr} (I : Inv X pins σ H s) (hb : s.heap.objs.size ≤ b) (hn : H' b = none) : FpOk X pins H' b := by
  refine ⟨hn, Nat.ne_of_gt (Nat.lt_of_lt_of_le I.lt hb), I.nofs hb, .inr (Nat.le_trans I.sz hb), fun x c e z => ?_, fun p hp z => ?_⟩
  · obtain ⟨v, q⟩ := I.cell x c e
    exact absurd (Nat.lt_of_lt_of_le q.lt (by rw [z]; exact hb)) (Nat.lt_irrefl _)
  · exact absurd (Nat.lt_of_lt_of_le (Heap.lt_size (I.pin p hp).1) (by rw [z]; exact hb)) (Nat.lt_irrefl _)
structure Turn (P : Program) (w : World) (K : PySem.W.Frag) (tg : Expr) (J : It) (fp : List Addr) (it : Addr) (tn : Nat → Heap → Prop) : Prop where
  mem : it ∈ fp
  obj : ∀ i h, tn i h → ∀ b ∈ fp, ∃ o, h.get? b = some o ∧ ∀ v, o.data ≠ .cell v
  keep : ∀ i h h', tn i h → (∀ b ∈ fp, ∀ o, h.get? b = some o → h'.get? b = some o) → tn i h'
  item : ∀ (X : Cx), X.prog = P → X.w = w → X.K = K → X.calm = true → ∀ (i : Nat) (pins : List (Addr × Obj)) (s : Shared) (σ : St) (H : Hp) (E : Value → Shared → Prop), Inv X pins σ H s → (∀ b ∈ fp, FpOk X pins H b) → tn i s.heap → J.go i H →
    wpAny (model P w) X.A (pyNext (.ref it)) (fun r s1 => ∃ u, r = some u ∧
      wpAny (model P w) X.A (letOwnedTupleGo tg (.ref it) u) (fun _ s2 => ∃ x H', Inv X pins σ H' s2 ∧ RelV x u ∧ J.yld i H x H' ∧ tn (i + 1) s2.heap ∧ ∀ b ∈ fp, H' b = none) E s1) E s
  done : ∀ (X : Cx), X.prog = P → X.w = w → X.K = K → X.calm = true → ∀ (i : Nat) (pins : List (Addr × Obj)) (s : Shared) (σ : St) (H : Hp) (E : Value → Shared → Prop), Inv X pins σ H s → (∀ b ∈ fp, FpOk X pins H b) → tn i s.heap → J.stop i H →
    wpAny (model P w) X.A (pyNext (.ref it)) (fun r s1 => r = none ∧ Inv X pins σ H s1) E s
  self : ∀ (A : Around) (i : Nat) (s : Shared) (Q : Value → Shared → Prop) (E : Value → Shared → Prop), tn i s.heap → Q (.ref it) s → wpAny (model P w) A (pyIter (.ref it)) Q E s
abbrev TI := St → Hp → (It → Hp → Prop) → Prop
def PIE (X : Cx) (pins : List (Addr × Obj)) (σ : St) (tg : Expr) (R : It → Hp → Prop) (itv : Value) (s2 : Shared) : Prop :=
  ∃ (it : Addr) (fp : List Addr) (tn : Nat → Heap → Prop) (J : It) (H' : Hp), itv = .ref it ∧ Inv X pins σ H' s2 ∧ Turn X.prog X.w X.K tg J fp it tn ∧ tn 0 s2.heap ∧ (∀ b ∈ fp, FpOk X pins H' b) ∧ R J H'
def PI (X : Cx) (tg iter : Expr) (wi : TI) : Prop :=
  ∀ (pins : List (Addr × Obj)) (s : Shared) (σ : St) (H : Hp) (R : It → Hp → Prop), Inv X pins σ H s → wi σ H R →
    wpAny (model X.prog X.w) X.A (eval iter X.env) (fun v s1 => wpAny (model X.prog X.w) X.A (pyIter v) (PIE X pins σ tg R) X.xe s1) X.xe s
theorem go_of {M : Model} {A : Around} {E : Value → Shared → Prop} {s : Shared} {tg : Expr} {it : Addr} {u : Value} {o : Obj} {n : String} {vs : Array Value} {Q : Unit → Shared → Prop} (ho : s.heap.get? it = some o) (hc : o.cls = .type n) (hd : o.data = .fields vs)
    (hn : ["enumerate", "zip", "dict_itemiterator", "dict_reverseitemiterator", "odict_iterator", "itertools.zip_longest", "itertools.pairwise"].contains n = false) (hQ : Q () s) : wpAny M A (letOwnedTupleGo tg (.ref it) u) Q E s := by
  unfold letOwnedTupleGo
  cases tg <;> first
    | exact wpAny_pure hQ
    | (cases u <;> first
        | exact wpAny_pure hQ
        | (refine wpAny_bind (wpAny_load ho ?_)
           rw [hc, hd]
           show wpAny M A (if (["enumerate", "zip", "dict_itemiterator", "dict_reverseitemiterator", "odict_iterator", "itertools.zip_longest", "itertools.pairwise"].contains n && vs[0]? == some (rawInt _)) = true then _ else _) Q E s
           rw [if_neg (by intro h; rw [hn, Bool.false_and] at h; cases h)]
           exact wpAny_pure hQ))
def Itl (K : PySem.W.Frag) (a : Addr) : It :=
  ⟨fun i H => ∃ xs x, SqL K H a xs ∧ xs[i]? = some x, fun i H x H' => H' = H ∧ ∀ xs, SqL K H a xs → xs[i]? = some x, fun i H => ∃ xs, SqL K H a xs ∧ xs.length ≤ i⟩
def Itt (K : PySem.W.Frag) (a : Addr) : It :=
  ⟨fun i H => ∃ xs x, SqT K H a xs ∧ xs[i]? = some x, fun i H x H' => H' = H ∧ ∀ xs, SqT K H a xs → xs[i]? = some x, fun i H => ∃ xs, SqT K H a xs ∧ xs.length ≤ i⟩
def Itr (lo : Int) (n : Nat) : It := ⟨fun i _ => i < n, fun i H x H' => H' = H ∧ x = .int (lo + i), fun i _ => n ≤ i⟩
theorem turn_list {P : Program} {w : World} {K : PySem.W.Frag} {tg : Expr} (a it : Addr) : Turn P w K tg (Itl K a) [it] it (fun i h => h.IsListIter it a i) where
  mem := by simp
  obj := fun i h st b hb => by
    have e : b = it := by simpa using hb
    subst e
    obtain ⟨o, e, c, d⟩ := st
    exact ⟨o, e, fun v z => by rw [d] at z; cases z⟩
  keep := fun i h h' st k => st.at fun o e => k it (by simp) o e
  item := by
    intro X hP hw hK hc i pins s σ H E I hf st hg
    subst hP hw hK
    obtain ⟨xs, x, hq, hx⟩ := hg
    obtain ⟨its, rv, p, hz⟩ := I.list hq
    obtain ⟨u, hu, ru⟩ := rv.get hx
    obtain ⟨f0, f1, f2, f3, f4, f5⟩ := hf it (by simp)
    refine wpAny_pyNext_list_item st p.isList (x := u) (by simpa using hu) fun h' st' sb => ?_
    have I1 : Inv X pins σ H { s with heap := h' } := I.turned (t' := s.toks) (fun b o hb e => (sb.2 b hb).trans e) f0 f1 f3 f4 f5
    obtain ⟨o, e, c, d⟩ := id st'
    exact ⟨u, rfl, go_of (s := { s with heap := h' }) e c d (by decide) ⟨x, H, I1, ru, ⟨rfl, fun ys hy => by rw [I.list_inj hy hq]; exact hx⟩, st', fun b hb => (hf b hb).1⟩⟩
  done := by
    intro X hP hw hK hc i pins s σ H E I hf st hg
    subst hP hw hK
    obtain ⟨xs, hq, hx⟩ := hg
    obtain ⟨its, rv, p, hz⟩ := I.list hq
    obtain ⟨f0, f1, f2, f3, f4, f5⟩ := hf it (by simp)
    have hl := rv.length
    exact wpAny_pyNext_list_end (I.ok.hd hc) st p.isList (by simp; omega) fun h' eb => ⟨rfl, I.turned (t' := s.toks) (fun b o hb e => eb b o hb e) f0 f1 f3 f4 f5⟩
  self := fun _ _ _ _ _ st h => wpAny_pyIter_listiter st h
theorem turn_tuple {P : Program} {w : World} {K : PySem.W.Frag} {tg : Expr} (a it : Addr) : Turn P w K tg (Itt K a) [it] it (fun i h => h.IsTupleIter it a i) where
  mem := by simp
  obj := fun i h st b hb => by
    have e : b = it := by simpa using hb
    subst e
    obtain ⟨o, e, c, d⟩ := st
    exact ⟨o, e, fun v z => by rw [d] at z; cases z⟩
  keep := fun i h h' st k => st.at fun o e => k it (by simp) o e
  item := by
    intro X hP hw hK hc i pins s σ H E I hf st hg
    subst hP hw hK
    obtain ⟨xs, x, hq, hx⟩ := hg
    obtain ⟨its, rv, p, hz⟩ := I.tuple hq
    obtain ⟨u, hu, ru⟩ := rv.get hx
    obtain ⟨f0, f1, f2, f3, f4, f5⟩ := hf it (by simp)
    refine wpAny_pyNext_tuple_item st (show s.heap.IsTuple a its.toArray from p) (x := u) (by simpa using hu) fun h' st' sb => ?_
    have I1 : Inv X pins σ H { s with heap := h' } := I.turned (t' := s.toks) (fun b o hb e => (sb.2 b hb).trans e) f0 f1 f3 f4 f5
    obtain ⟨o, e, c, d⟩ := id st'
    exact ⟨u, rfl, go_of (s := { s with heap := h' }) e c d (by decide) ⟨x, H, I1, ru, ⟨rfl, fun ys hy => by rw [I.tuple_inj hy hq]; exact hx⟩, st', fun b hb => (hf b hb).1⟩⟩
  done := by
    intro X hP hw hK hc i pins s σ H E I hf st hg
    subst hP hw hK
    obtain ⟨xs, hq, hx⟩ := hg
    obtain ⟨its, rv, p, hz⟩ := I.tuple hq
    obtain ⟨f0, f1, f2, f3, f4, f5⟩ := hf it (by simp)
    have hl := rv.length
    exact wpAny_pyNext_tuple_end (I.ok.hd hc) st (show s.heap.IsTuple a its.toArray from p) (by simp; omega) fun h' eb => ⟨rfl, I.turned (t' := s.toks) (fun b o hb e => eb b o hb e) f0 f1 f3 f4 f5⟩
  self := fun _ _ _ _ _ st h => wpAny_pyIter_tupleiter st h
theorem turn_range {P : Program} {w : World} {K : PySem.W.Frag} {tg : Expr} (it : Addr) (lo : Int) (n : Nat) : Turn P w K tg (Itr lo n) [it] it (fun i h => IsRangeIter h it (lo + (i : Nat) * 1) ((n : Int) - (i : Nat)) 1) where
  mem := by simp
  obj := fun i h st b hb => by
    have e : b = it := by simpa using hb
    subst e
    exact ⟨_, st, fun v z => by
      have z' : Data.fields _ = Data.cell v := z
      cases z'⟩
  keep := fun i h h' st k => k it (by simp) _ st
  item := by
    intro X hP hw hK hc i pins s σ H E I hf st hg
    subst hP hw hK
    obtain ⟨f0, f1, f2, f3, f4, f5⟩ := hf it (by simp)
    have W := Walks.range (prog := X.prog) (w := X.w) (I.ok.hd hc) it lo 1 n
    refine W.item i s _ _ hg st fun v h' tk hv st' kk => ?_
    obtain ⟨t, rfl⟩ := hv
    have I1 : Inv X pins σ H { s with heap := h', toks := tk } := I.turned (fun b o hb e => kk b o (by simpa using hb) e) f0 f1 f3 f4 f5
    refine ⟨_, rfl, go_of (s := { s with heap := h', toks := tk }) (n := "range_iterator") st' rfl rfl (by decide) ⟨.int (lo + i), H, I1, ⟨t, ?_⟩, ⟨rfl, rfl⟩, st', fun b hb => (hf b hb).1⟩⟩
    rw [Int.mul_one]
  done := by
    intro X hP hw hK hc i pins s σ H E I hf st hg
    subst hP hw hK
    obtain ⟨f0, f1, f2, f3, f4, f5⟩ := hf it (by simp)
    exact wpAny_pyNext_range_end (I.ok.hd hc) st (by have : n ≤ i := hg; omega) fun h' eb => ⟨rfl, I.turned (t' := s.toks) (fun b o hb e => eb b o hb e) f0 f1 f3 f4 f5⟩
  self := fun _ _ _ _ _ st h => wpAny_pyIter_rangeiter st h
end L2
namespace L2
open PySem PySem.Spec PyProof.Rows
section
variable {X : Cx} {tg : Expr}
def iList (K : PySem.W.Frag) (tl : TE) : TI := fun σ H R => tl σ H fun x H1 => ∃ a, x = .ref a ∧ (∃ xs, SqL K H1 a xs) ∧ R (Itl K a) H1
def iTup (K : PySem.W.Frag) (tl : TE) : TI := fun σ H R => tl σ H fun x H1 => ∃ a, x = .ref a ∧ (∃ xs, SqT K H1 a xs) ∧ R (Itt K a) H1
theorem pi_list {l : Expr} {tl : TE} (hl : PE X l tl) : PI X tg l (iList X.K tl) := by
  intro pins s σ H R I h
  refine thn (hl pins s σ H _ I h) fun v s1 ⟨x, H1, I1, r1, q1⟩ => ?_
  obtain ⟨a, e, ⟨xs, hq⟩, q⟩ := q1
  subst e
  cases r1
  obtain ⟨its, rv, p, hz⟩ := I1.list hq
  refine wpAny_pyIter_list p.isList ?_
  refine ⟨s1.heap.objs.size, [s1.heap.objs.size], _, _, H1, rfl, I1.kept (t' := s1.toks) fun b o e => Heap.get?_push_of_some _ e, turn_list a _, ⟨_, Heap.get?_push_size _ rfl, rfl, rfl⟩, fun b hb => ?_, q⟩
  have e : b = s1.heap.objs.size := by simpa using hb
  subst e
  exact I1.fpOk (Nat.le_refl _) (I1.hok.fresh (Nat.le_refl _))
theorem pi_tup {l : Expr} {tl : TE} (hl : PE X l tl) : PI X tg l (iTup X.K tl) := by
  intro pins s σ H R I h
  refine thn (hl pins s σ H _ I h) fun v s1 ⟨x, H1, I1, r1, q1⟩ => ?_
  obtain ⟨a, e, ⟨xs, hq⟩, q⟩ := q1
  subst e
  cases r1
  obtain ⟨its, rv, p, hz⟩ := I1.tuple hq
  refine wpAny_pyIter_tuple (show s1.heap.IsTuple a its.toArray from p) ?_
  refine ⟨s1.heap.objs.size, [s1.heap.objs.size], _, _, H1, rfl, I1.kept (t' := s1.toks) fun b o e => Heap.get?_push_of_some _ e, turn_tuple a _, ⟨_, Heap.get?_push_size _ rfl, rfl, rfl⟩, fun b hb => ?_, q⟩
  have e : b = s1.heap.objs.size := by simpa using hb
  subst e
  exact I1.fpOk (Nat.le_refl _) (I1.hok.fresh (Nat.le_refl _))
theorem range_it {pins : List (Addr × Obj)} {σ : St} {H : Hp} {s : Shared} {R : It → Hp → Prop} {E : Value → Shared → Prop} {lo hi : Int} {t u v : Tok} {tk : Nat} (I : Inv X pins σ H s) (h1 : -(2 ^ 62) ≤ lo) (h2 : lo < 2 ^ 62) (h3 : -(2 ^ 62) ≤ hi) (h4 : hi < 2 ^ 62)
    (q : R (Itr lo (hi - lo).toNat) H) : wpAny (model X.prog X.w) X.A (pyIter (.ref s.heap.objs.size)) (PIE X pins σ tg R) E { s with heap := s.heap.push { cls := .type "range", data := .fields #[.int lo t, .int hi u, .int 1 v] }, toks := tk } := by
  refine wpAny_pyIter_range (IsRange.new ..) (small_one h1 h2 h3 h4) ?_
  have I1 : Inv X pins σ H { s with heap := s.heap.push { cls := .type "range", data := .fields #[.int lo t, .int hi u, .int 1 v] }, toks := tk } := I.kept fun b o e => Heap.get?_push_of_some _ e
  refine ⟨(s.heap.push { cls := .type "range", data := .fields #[.int lo t, .int hi u, .int 1 v] }).objs.size, [(s.heap.push { cls := .type "range", data := .fields #[.int lo t, .int hi u, .int 1 v] }).objs.size], _, _, H, rfl,
    I1.kept (t' := tk) fun b o e => Heap.get?_push_of_some _ e, turn_range _ lo (hi - lo).toNat, ?_, fun b hb => ?_, q⟩
  · have e1 : lo + ((0 : Nat) : Int) * 1 = lo := by simp
    have e2 : (((hi - lo).toNat : Nat) : Int) - ((0 : Nat) : Int) = Builtin.Range.rangeSize lo hi 1 := by rw [rangeSize_one]; split <;> omega
    show IsRangeIter _ _ (lo + ((0 : Nat) : Int) * 1) ((((hi - lo).toNat : Nat) : Int) - ((0 : Nat) : Int)) 1
    rw [e1, e2]
    exact Heap.get?_push_size _ rfl
  · have e : b = (s.heap.push { cls := .type "range", data := .fields #[.int lo t, .int hi u, .int 1 v] }).objs.size := by simpa using hb
    subst e
    exact I1.fpOk (Nat.le_refl _) (I1.hok.fresh (Nat.le_refl _))
def iRng1 (ta : TA) : TI := fun σ H R => ta σ H fun vs H1 => ∃ j : Int, vs = [.int j] ∧ -(2 ^ 62) ≤ j ∧ j < 2 ^ 62 ∧ R (Itr 0 j.toNat) H1
theorem pi_range1 {a : Expr} {ta : TA} {p pos : Pos} (hg : Gl X "range") (hm : X.mg "range" = none) (ha : PA X [a] ta) (hs : starEach [a] X.env = [(false, eval a X.env)] := by rfl) : PI X tg (.Call (.Name "range" p) [a] [] pos) (iRng1 ta) := by
  intro pins s σ H R I h
  refine Call_ (ld_blt I hg hm boot_range (PyProof.Rows.callWith_type1 (thn (ha pos pins s σ H _ I h) fun us s1 ⟨vs, H1, I1, r1, q1⟩ => ?_) hs rfl))
  obtain ⟨j, e, q1, q2, q⟩ := q1
  subst e
  cases r1 with
  | cons r rr =>
    cases rr
    obtain ⟨t, rfl⟩ := r
    exact call_range_1 (range_it I1 (by omega) (by omega) q1 q2 (by simpa using q))
def tFor (wi : TI) (g : TG) (tb : TS) : TS := fun D σ H => wi σ H fun J H1 => ∃ W : Nat → Nat → St → Hp → Prop, (∃ m, W 0 m σ H1) ∧ ∀ i m σ H, W i m σ H →
  (J.stop i H ∧ D.nx σ H) ∨ (J.go i H ∧ ∃ N : St → Hp → Prop, (∀ σ' H', N σ' H' → ∃ m', m' < m ∧ W (i + 1) m' σ' H') ∧ ∀ x H', J.yld i H x H' → g x σ H' fun σ2 H2 => tb { D with nx := N, ct := N, bk := D.nx } σ2 H2)
def pinsAt (fp : List Addr) (h : Heap) : List (Addr × Obj) := fp.filterMap fun b => (h.get? b).map fun o => (b, o)
theorem mem_pinsAt {fp : List Addr} {h : Heap} {b : Addr} {o : Obj} (hb : b ∈ fp) (e : h.get? b = some o) : (b, o) ∈ pinsAt fp h := List.mem_filterMap.mpr ⟨b, hb, by rw [e]; rfl⟩
theorem of_pinsAt {fp : List Addr} {h : Heap} {p : Addr × Obj} (hp : p ∈ pinsAt fp h) : p.1 ∈ fp ∧ h.get? p.1 = some p.2 := by
  obtain ⟨b, hb, e⟩ := List.mem_filterMap.mp hp
  cases q : h.get? b with
  | none => rw [q] at e; cases e
  | some o =>
    rw [q] at e
    have e' : (b, o) = p := Option.some.inj e
    subst e'
    exact ⟨hb, q⟩
theorem Inv.pinned {pins : List (Addr × Obj)} {σ : St} {H : Hp} {s : Shared} {fp : List Addr} (I : Inv X pins σ H s) (hf : ∀ b ∈ fp, FpOk X pins H b) (ho : ∀ b ∈ fp, ∃ o, s.heap.get? b = some o ∧ ∀ v, o.data ≠ .cell v) : Inv X (pins ++ pinsAt fp s.heap) σ H s :=
  I.pins_of fun p hp => (List.mem_append.mp hp).elim (fun z => I.pin p (List.mem_append_right _ z)) fun z => by
    obtain ⟨hb, e⟩ := of_pinsAt z
    obtain ⟨f0, f1, f2, _⟩ := hf p.1 hb
    obtain ⟨o, e', d⟩ := ho p.1 hb
    rw [e] at e'; cases e'
    exact ⟨e, f0, f1, f2, d⟩
theorem Inv.unpinned {pins pl : List (Addr × Obj)} {σ : St} {H : Hp} {s : Shared} (I : Inv X (pins ++ pl) σ H s) : Inv X pins σ H s := I.pins_of fun p hp => I.pin p (List.mem_append_right _ (List.mem_append_left _ hp))
theorem ps_for {iter : Expr} {body : List Stmt} {wi : TI} {g : TG} {tb : TS} {pos : Pos} (hp : PassesOwn (model X.prog X.w) X.A X.env X.xe) (hc : X.calm = true) (hi : PI X tg iter wi) (hg : PG X tg g) (hb : PSs X body tb)
    (hs : ∀ x, foldedSetIterable iter X.env x = pure x := by intro _; rfl) : PS X (.For tg iter body [] pos) (tFor wi g tb) := by
  intro pins s σ H D I h
  refine wpAny_For (thn (hi pins s σ H _ I h) fun v s1 h1 => thn h1 fun itv s2 h2 => ?_) hs
  obtain ⟨it, fp, tn, J, H2, e, I2, T, st2, f2, W, ⟨m0, w0⟩, turn⟩ := h2
  subst e
  have stat : ∀ {H' : Hp}, (∀ b ∈ fp, H' b = none) → ∀ b ∈ fp, FpOk X pins H' b := fun hn b hb => ⟨hn b hb, (f2 b hb).2⟩
  refine codeAny_forLoop_any (fun n s' => ∃ i σ' H', Inv X pins σ' H' s' ∧ tn i s'.heap ∧ (∀ b ∈ fp, H' b = none) ∧ W i n σ' H') ?_ m0 ⟨0, σ, H2, I2, st2, fun b hb => (f2 b hb).1, w0⟩
  rintro n s3 ⟨i, σ3, H3, I3, st3, fr3, w3⟩
  rcases turn i n σ3 H3 w3 with ⟨stop, qn⟩ | ⟨go, N, hN, step⟩
  · refine wpAny_passesOwn hp (thn (T.done X rfl rfl rfl hc i pins s3 σ3 H3 X.xe I3 (stat fr3) st3 stop) fun r s4 ⟨hr, I4⟩ => ?_)
    subst hr
    exact wpAny_execs_nil ⟨σ3, H3, I4, qn⟩
  · refine wpAny_passesOwn hp (thn (T.item X rfl rfl rfl hc i pins s3 σ3 H3 X.xe I3 (stat fr3) st3 go) fun r s4 ⟨u, hr, h4⟩ => ?_)
    subst hr
    refine wpAny_passesOwn hp (thn h4 fun _ s5 ⟨x, H5, I5, r5, y5, st5, fr5⟩ => ?_)
    have I5' := I5.pinned (stat fr5) (T.obj _ _ st5)
    refine wpAny_passesOwn hp (thn (hg _ s5 σ3 H5 x u _ I5' r5 (step x H5 y5)) fun _ s6 ⟨σ6, H6, I6, q6⟩ => ?_)
    refine wpAny_passesOwn hp (thn (hb _ s6 σ6 H6 _ I6 q6) fun f s7 q7 => ?_)
    have again : ∀ {σ7 : St} {H7 : Hp}, Inv X (pins ++ pinsAt fp s5.heap) σ7 H7 s7 → N σ7 H7 → ∃ m, m < n ∧ ∃ i σ' H', Inv X pins σ' H' s7 ∧ tn i s7.heap ∧ (∀ b ∈ fp, H' b = none) ∧ W i m σ' H' := fun {σ7 H7} I7 n7 => by
      obtain ⟨m', hm, w7⟩ := hN σ7 H7 n7
      refine ⟨m', hm, i + 1, σ7, H7, I7.unpinned, T.keep _ _ _ st5 fun b hb o e => (I7.pin (b, o) (List.mem_append_right _ (List.mem_append_right _ (mem_pinsAt hb e)))).1, fun b hb => ?_, w7⟩
      obtain ⟨o, e, d⟩ := T.obj _ _ st5 b hb
      exact (I7.pin (b, o) (List.mem_append_right _ (List.mem_append_right _ (mem_pinsAt hb e)))).2.1
    cases f with
    | next => obtain ⟨σ7, H7, I7, n7⟩ := q7; exact again I7 n7
    | cont => obtain ⟨σ7, H7, I7, n7⟩ := q7; exact again I7 n7
    | brk => obtain ⟨σ7, H7, I7, q7⟩ := q7; exact ⟨σ7, H7, I7.unpinned, q7⟩
    | ret v => obtain ⟨x7, σ7, H7, I7, r7, q7⟩ := q7; exact ⟨x7, σ7, H7, I7.unpinned, r7, q7⟩
end
theorem for_list {K : PySem.W.Frag} {a : Addr} {xs : List V} {g : TG} {tb : TS} {D : Ends} {σ : St} {H : Hp} (Pv : Nat → St → Hp → Prop) (h0 : Pv 0 σ H) (hl : ∀ i σ H, i ≤ xs.length → Pv i σ H → SqL K H a xs)
    (hs : ∀ i x σ H, xs[i]? = some x → Pv i σ H → g x σ H fun σ2 H2 => tb { D with nx := Pv (i + 1), ct := Pv (i + 1), bk := D.nx } σ2 H2) (hd : ∀ σ H, Pv xs.length σ H → D.nx σ H) :
    ∃ W : Nat → Nat → St → Hp → Prop, (∃ m, W 0 m σ H) ∧ ∀ i m σ H, W i m σ H →
      ((Itl K a).stop i H ∧ D.nx σ H) ∨ ((Itl K a).go i H ∧ ∃ N : St → Hp → Prop, (∀ σ' H', N σ' H' → ∃ m', m' < m ∧ W (i + 1) m' σ' H') ∧ ∀ x H', (Itl K a).yld i H x H' → g x σ H' fun σ2 H2 => tb { D with nx := N, ct := N, bk := D.nx } σ2 H2) := by
  refine ⟨fun i m σ H => m = xs.length - i ∧ i ≤ xs.length ∧ Pv i σ H, ⟨xs.length, by simp, Nat.zero_le _, h0⟩, ?_⟩
  rintro i m σ H ⟨rfl, hi, p⟩
  have q := hl i σ H hi p
  by_cases hlt : i < xs.length
  · refine .inr ⟨⟨xs, xs[i], q, by simp [hlt]⟩, Pv (i + 1), fun σ' H' p' => ⟨xs.length - (i + 1), by omega, rfl, hlt, p'⟩, fun x H' y => ?_⟩
    obtain ⟨e, y⟩ := y
    subst e
    exact hs i x σ _ (y xs q) p
  · have e : i = xs.length := by omega
    subst e
    exact .inl ⟨⟨xs, q, Nat.le_refl _⟩, hd σ H p⟩
theorem for_tup {K : PySem.W.Frag} {a : Addr} {xs : List V} {g : TG} {tb : TS} {D : Ends} {σ : St} {H : Hp} (Pv : Nat → St → Hp → Prop) (h0 : Pv 0 σ H) (hl : ∀ i σ H, i ≤ xs.length → Pv i σ H → SqT K H a xs)
    (hs : ∀ i x σ H, xs[i]? = some x → Pv i σ H → g x σ H fun σ2 H2 => tb { D with nx := Pv (i + 1), ct := Pv (i + 1), bk := D.nx } σ2 H2) (hd : ∀ σ H, Pv xs.length σ H → D.nx σ H) :
    ∃ W : Nat → Nat → St → Hp → Prop, (∃ m, W 0 m σ H) ∧ ∀ i m σ H, W i m σ H →
      ((Itt K a).stop i H ∧ D.nx σ H) ∨ ((Itt K a).go i H ∧ ∃ N : St → Hp → Prop, (∀ σ' H', N σ' H' → ∃ m', m' < m ∧ W (i + 1) m' σ' H') ∧ ∀ x H', (Itt K a).yld i H x H' → g x σ H' fun σ2 H2 => tb { D with nx := N, ct := N, bk := D.nx } σ2 H2) := by
  refine ⟨fun i m σ H => m = xs.length - i ∧ i ≤ xs.length ∧ Pv i σ H, ⟨xs.length, by simp, Nat.zero_le _, h0⟩, ?_⟩
  rintro i m σ H ⟨rfl, hi, p⟩
  have q := hl i σ H hi p
  by_cases hlt : i < xs.length
  · refine .inr ⟨⟨xs, xs[i], q, by simp [hlt]⟩, Pv (i + 1), fun σ' H' p' => ⟨xs.length - (i + 1), by omega, rfl, hlt, p'⟩, fun x H' y => ?_⟩
    obtain ⟨e, y⟩ := y
    subst e
    exact hs i x σ _ (y xs q) p
  · have e : i = xs.length := by omega
    subst e
    exact .inl ⟨⟨xs, q, Nat.le_refl _⟩, hd σ H p⟩
theorem for_range {lo : Int} {n : Nat} {g : TG} {tb : TS} {D : Ends} {σ : St} {H : Hp} (Pv : Nat → St → Hp → Prop) (h0 : Pv 0 σ H)
    (hs : ∀ i σ H, i < n → Pv i σ H → g (.int (lo + i)) σ H fun σ2 H2 => tb { D with nx := Pv (i + 1), ct := Pv (i + 1), bk := D.nx } σ2 H2) (hd : ∀ σ H, Pv n σ H → D.nx σ H) :
    ∃ W : Nat → Nat → St → Hp → Prop, (∃ m, W 0 m σ H) ∧ ∀ i m σ H, W i m σ H →
      ((Itr lo n).stop i H ∧ D.nx σ H) ∨ ((Itr lo n).go i H ∧ ∃ N : St → Hp → Prop, (∀ σ' H', N σ' H' → ∃ m', m' < m ∧ W (i + 1) m' σ' H') ∧ ∀ x H', (Itr lo n).yld i H x H' → g x σ H' fun σ2 H2 => tb { D with nx := N, ct := N, bk := D.nx } σ2 H2) := by
  refine ⟨fun i m σ H => m = n - i ∧ i ≤ n ∧ Pv i σ H, ⟨n, by simp, Nat.zero_le _, h0⟩, ?_⟩
  rintro i m σ H ⟨rfl, hi, p⟩
  by_cases hlt : i < n
  · refine .inr ⟨hlt, Pv (i + 1), fun σ' H' p' => ⟨n - (i + 1), by omega, rfl, hlt, p'⟩, fun x H' y => ?_⟩
    obtain ⟨e, y⟩ := y
    subst e y
    exact hs i σ _ hlt p
  · have e : i = n := by omega
    subst e
    exact .inl ⟨Nat.le_refl _, hd σ H p⟩
end L2
namespace L2
open PySem PySem.Spec PyProof.Rows
abbrev R2 := V → V → Hp → VK → Prop
def OpR (X : Cx) (f : Value → Value → Sem Value) (r : R2) : Prop :=
  ∀ (pins : List (Addr × Obj)) (s : Shared) (σ : St) (H : Hp) (x y : V) (v u : Value) (Q : VK), Inv X pins σ H s → RelV x v → RelV y u → r x y H Q →
    wpAny (model X.prog X.w) X.A (f v u) (EP X pins σ Q) X.xe s
def UnR (X : Cx) (f : Value → Sem Value) (r : V → Hp → VK → Prop) : Prop :=
  ∀ (pins : List (Addr × Obj)) (s : Shared) (σ : St) (H : Hp) (x : V) (v : Value) (Q : VK), Inv X pins σ H s → RelV x v → r x H Q →
    wpAny (model X.prog X.w) X.A (f v) (EP X pins σ Q) X.xe s
def CallR (X : Cx) (f : Value) (r : List V → Hp → VK → Prop) : Prop :=
  ∀ (pins : List (Addr × Obj)) (s : Shared) (σ : St) (H : Hp) (xs : List V) (us : List Value) (Q : VK), Inv X pins σ H s → Vals xs us → r xs H Q →
    wpAny (model X.prog X.w) X.A (call f us) (EP X pins σ Q) X.xe s
def tOp (r : R2) (ta tb : TE) : TE := fun σ H Q => ta σ H fun x H1 => tb σ H1 fun y H2 => r x y H2 Q
def tUn (r : V → Hp → VK → Prop) (ta : TE) : TE := fun σ H Q => ta σ H fun x H1 => r x H1 Q
def rI (C : Int → Int → Prop) (g : Int → Int → V) : R2 := fun x y H Q => ∃ i j, x = .int i ∧ y = .int j ∧ C i j ∧ Q (g i j) H
def rI0 (g : Int → Int → V) : R2 := fun x y H Q => ∃ i j, x = .int i ∧ y = .int j ∧ Q (g i j) H
def rU (g : Int → V) : V → Hp → VK → Prop := fun x H Q => ∃ i, x = .int i ∧ Q (g i) H
section
variable {X : Cx} {a b c : Expr} {ta tb tc : TE} {pos : Pos}
theorem binT (ha : PE X a ta) (hb : PE X b tb) {pins : List (Addr × Obj)} {s : Shared} {σ : St} {H : Hp} {R : V → V → Hp → Prop} (I : Inv X pins σ H s)
    (h : ta σ H fun x H1 => tb σ H1 fun y H2 => R x y H2) {Q : Value → Shared → Prop} {f : Value → Value → Sem Value}
    (hf : ∀ v u s2 x y H2, Inv X pins σ H2 s2 → RelV x v → RelV y u → R x y H2 → wpAny (model X.prog X.w) X.A (f v u) Q X.xe s2) :
    wpAny (model X.prog X.w) X.A (eval a X.env) (fun v s₁ => wpAny (model X.prog X.w) X.A (eval b X.env) (fun u s₂ => wpAny (model X.prog X.w) X.A (f v u) Q X.xe s₂) X.xe s₁) X.xe s := by
  refine thn (ha pins s σ H _ I h) fun v s1 ⟨x, H1, I1, r1, q1⟩ => ?_
  refine thn (hb pins s1 σ H1 _ I1 q1) fun u s2 ⟨y, H2, I2, r2, q2⟩ => ?_
  exact hf v u s2 x y H2 I2 r1 r2 q2
theorem pe_op {op : Operator} {r : R2} (ho : OpR X (binaryOp op) r) (ha : PE X a ta) (hb : PE X b tb) : PE X (.BinOp a op b pos) (tOp r ta tb) := by
  intro pins s σ H Q I h
  exact wpAny_BinOp (binT ha hb I h fun v u s2 x y H2 I2 rx ry q => ho pins s2 σ H2 x y v u Q I2 rx ry q)
theorem pe_un {op : UnaryOp} {r : V → Hp → VK → Prop} (ho : UnR X (unaryOp op) r) (ha : PE X a ta) : PE X (.UnaryOp op a pos) (tUn r ta) := by
  intro pins s σ H Q I h
  exact UnaryOp_ (thn (ha pins s σ H _ I h) fun v s1 ⟨x, H1, I1, r1, q1⟩ => ho pins s1 σ H1 x v Q I1 r1 q1)
theorem opI {f : Value → Value → Sem Value} {C : Int → Int → Prop} {g : Int → Int → Int}
    (rule : ∀ (i j : Int) (t u : Tok) (s : Shared) (Q : Value → Shared → Prop) (E : Value → Shared → Prop), C i j → Q (.int (g i j) s.toks) { s with toks := s.toks + 1 } → wpAny (model X.prog X.w) X.A (f (.int i t) (.int j u)) Q E s) :
    OpR X f (rI C fun i j => .int (g i j)) := by
  intro pins s σ H x y v u Q I rx ry h
  obtain ⟨i, j, rfl, rfl, hc, q⟩ := h
  obtain ⟨t, rfl⟩ := rx
  obtain ⟨t', rfl⟩ := ry
  exact rule i j t t' s _ _ hc ⟨.int (g i j), H, I.tok _, ⟨_, rfl⟩, q⟩
theorem opI0 {f : Value → Value → Sem Value} {g : Int → Int → Int}
    (rule : ∀ (i j : Int) (t u : Tok) (s : Shared) (Q : Value → Shared → Prop) (E : Value → Shared → Prop), Q (.int (g i j) s.toks) { s with toks := s.toks + 1 } → wpAny (model X.prog X.w) X.A (f (.int i t) (.int j u)) Q E s) :
    OpR X f (rI0 fun i j => .int (g i j)) := by
  intro pins s σ H x y v u Q I rx ry h
  obtain ⟨i, j, rfl, rfl, q⟩ := h
  obtain ⟨t, rfl⟩ := rx
  obtain ⟨t', rfl⟩ := ry
  exact rule i j t t' s _ _ ⟨.int (g i j), H, I.tok _, ⟨_, rfl⟩, q⟩
theorem opB0 {f : Value → Value → Sem Value} {g : Int → Int → Bool}
    (rule : ∀ (i j : Int) (t u : Tok) (s : Shared) (Q : Value → Shared → Prop) (E : Value → Shared → Prop), Q (.bool (g i j)) s → wpAny (model X.prog X.w) X.A (f (.int i t) (.int j u)) Q E s) :
    OpR X f (rI0 fun i j => .bl (g i j)) := by
  intro pins s σ H x y v u Q I rx ry h
  obtain ⟨i, j, rfl, rfl, q⟩ := h
  obtain ⟨t, rfl⟩ := rx
  obtain ⟨t', rfl⟩ := ry
  exact rule i j t t' s _ _ ⟨.bl (g i j), H, I, rfl, q⟩
def CDiv (i j : Int) : Prop := 0 < j ∧ j < 1073741824
def CPow (i j : Int) : Prop := 0 ≤ j ∧ j ≤ 1000000 ∧ i.natAbs < 2 ^ 64
def CMul (i j : Int) : Prop := (-(2 ^ 64) < i ∧ i < 2 ^ 64) ∨ (-(2 ^ 64) < j ∧ j < 2 ^ 64)
theorem CMul.ok {i j : Int} (h : CMul i j) : IntMulOk i j := by
  rcases h with ⟨h1, h2⟩ | ⟨h1, h2⟩
  · exact .of_left (intBits_le_64 h1 h2)
  · exact .of_right (intBits_le_64 h1 h2)
theorem two_pow_nn (k : Nat) : (0 : Int) ≤ 2 ^ k := by
  rw [two_pow_cast]
  exact Int.natCast_nonneg _
theorem op_add : OpR X (binaryOp .Add) (rI0 fun i j => .int (i + j)) := opI0 fun _ _ _ _ _ _ _ q => add_int q
theorem op_sub : OpR X (binaryOp .Sub) (rI0 fun i j => .int (i - j)) := opI0 fun _ _ _ _ _ _ _ q => sub_int q
theorem op_mul : OpR X (binaryOp .Mult) (rI CMul fun i j => .int (i * j)) := opI fun _ _ _ _ _ _ _ hc q => mul_int q hc.ok
theorem op_fdiv : OpR X (binaryOp .FloorDiv) (rI CDiv fun i j => .int (i / j)) := opI fun i j _ _ _ _ _ hc q => by
  have h1 : (0 : Int) < j := hc.1
  have h2 : j < 1073741824 := hc.2
  exact floordiv_int (by omega) (by rw [Int.fdiv_eq_ediv_of_nonneg i (by omega)]; exact q) (.inl (PyProof.noPylong_small (by omega)))
theorem op_mod : OpR X (binaryOp .Mod) (rI (fun _ j => 0 < j) fun i j => .int (i % j)) := opI fun i j _ _ _ _ _ hc q => by
  have h1 : (0 : Int) < j := hc
  exact mod_int' (by omega) (by rw [Int.fmod_eq_emod_of_nonneg i (by omega)]; exact q)
theorem op_shl : OpR X (binaryOp .LShift) (rI CPow fun i j => .int (i * 2 ^ j.toNat)) := opI fun _ _ _ _ _ _ _ hc q => lshift_int_small hc.1 hc.2.1 hc.2.2 q
theorem op_shr : OpR X (binaryOp .RShift) (rI (fun _ j => 0 ≤ j) fun i j => .int (i / 2 ^ j.toNat)) := opI fun i j _ _ _ _ _ hc q =>
  rshift_int hc (by rw [Int.fdiv_eq_ediv_of_nonneg i (two_pow_nn _)]; exact q)
theorem op_and : OpR X (binaryOp .BitAnd) (rI0 fun i j => .int (Builtin.bitAnd i j)) := opI0 fun _ _ _ _ _ _ _ q => and_int q
theorem op_or : OpR X (binaryOp .BitOr) (rI0 fun i j => .int (Builtin.bitOr i j)) := opI0 fun _ _ _ _ _ _ _ q => or_int q
theorem iop_add : OpR X (inplaceOp .Add) (rI0 fun i j => .int (i + j)) := opI0 fun _ _ _ _ _ _ _ q => iadd_int q
theorem iop_sub : OpR X (inplaceOp .Sub) (rI0 fun i j => .int (i - j)) := opI0 fun _ _ _ _ _ _ _ q => isub_int q
theorem iop_shl : OpR X (inplaceOp .LShift) (rI CPow fun i j => .int (i * 2 ^ j.toNat)) := opI fun _ _ _ _ _ _ _ hc q => ilshift_int_small hc.1 hc.2.1 hc.2.2 q
theorem iop_xor : OpR X (inplaceOp .BitXor) (rI0 fun i j => .int (Builtin.bitXor i j)) := opI0 fun _ _ _ _ _ _ _ q => ixor_int q
theorem unI {f : Value → Sem Value} {g : Int → Int}
    (rule : ∀ (i : Int) (t : Tok) (s : Shared) (Q : Value → Shared → Prop) (E : Value → Shared → Prop), Q (.int (g i) s.toks) { s with toks := s.toks + 1 } → wpAny (model X.prog X.w) X.A (f (.int i t)) Q E s) :
    UnR X f (rU fun i => .int (g i)) := by
  intro pins s σ H x v Q I rx h
  obtain ⟨i, rfl, q⟩ := h
  obtain ⟨t, rfl⟩ := rx
  exact rule i t s _ _ ⟨.int (g i), H, I.tok _, ⟨_, rfl⟩, q⟩
theorem un_neg : UnR X (unaryOp .USub) (rU fun i => .int (-i)) := unI fun _ _ _ _ _ q => neg_int q
end
def scal : V → V → Bool
  | .non, .non => true | .non, .int _ => true | .int _, .non => true | .non, .bl _ => true | .bl _, .non => true | .non, .str _ => true | .str _, .non => true
  | .int _, .int _ => true | .bl _, .bl _ => true | .str _, .str _ => true | .byt _, .byt _ => true
  | .int _, .str _ => true | .str _, .int _ => true | .bl _, .str _ => true | .str _, .bl _ => true
  | _, _ => false
def rEq : R2 := fun x y H Q => scal x y = true ∧ Q (.bl (decide (x = y))) H
def rNe : R2 := fun x y H Q => scal x y = true ∧ Q (.bl (!decide (x = y))) H
theorem dec_int {i j : Int} : decide (V.int i = V.int j) = (i == j) := by
  rw [Bool.eq_iff_iff]
  simp
theorem dec_bl {i j : Bool} : decide (V.bl i = V.bl j) = (i == j) := by
  rw [Bool.eq_iff_iff]
  simp
theorem dec_str {i j : Str} : decide (V.str i = V.str j) = (i == j) := by
  rw [Bool.eq_iff_iff]
  simp
theorem dec_byt {i j : Array UInt8} : decide (V.byt i = V.byt j) = (i.toList == j.toList) := by
  rw [Bool.eq_iff_iff]
  cases i
  cases j
  simp
section
variable {X : Cx} {a b c : Expr} {ta tb tc : TE} {pos : Pos}
theorem fin_bl {pins : List (Addr × Obj)} {σ : St} {H : Hp} {s : Shared} {Q : VK} {k k' : Bool} (I : Inv X pins σ H s) (q : Q (.bl k) H) (e : k = k') : EP X pins σ Q (.bool k') s := by
  subst e
  exact ⟨.bl k, H, I, rfl, q⟩
theorem op_eq : OpR X (compareOp .Eq) rEq := by
  intro pins s σ H x y v u Q I rx ry h
  obtain ⟨hs, q⟩ := h
  cases x with
  | non =>
    cases rx
    cases y with
    | non => cases ry; exact PySem.EqNone.eq_none_none (fin_bl I q (by simp))
    | bl j => cases ry; exact PySem.EqNone.eq_none_bool (fin_bl I q (by simp))
    | int j => obtain ⟨t', rfl⟩ := ry; exact PySem.EqNone.eq_none_int (fin_bl I q (by simp))
    | str j => obtain ⟨t', rfl⟩ := ry; exact PySem.EqNone.eq_none_str (fin_bl I q (by simp))
    | _ => exact absurd (show false = true from hs) Bool.false_ne_true
  | bl i =>
    cases rx
    cases y with
    | non => cases ry; exact PySem.EqNone.eq_bool_none (fin_bl I q (by simp))
    | bl j => cases ry; exact eq_bool (fin_bl I q dec_bl)
    | str j => obtain ⟨t', rfl⟩ := ry; exact PySem.EqMixed.eq_bool_str (fin_bl I q (by simp))
    | _ => exact absurd (show false = true from hs) Bool.false_ne_true
  | int i =>
    obtain ⟨t, rfl⟩ := rx
    cases y with
    | non => cases ry; exact PySem.EqNone.eq_int_none (fin_bl I q (by simp))
    | int j => obtain ⟨t', rfl⟩ := ry; exact eq_int (fin_bl I q dec_int)
    | str j => obtain ⟨t', rfl⟩ := ry; exact PySem.EqMixed.eq_int_str (fin_bl I q (by simp))
    | _ => exact absurd (show false = true from hs) Bool.false_ne_true
  | str i =>
    obtain ⟨t, rfl⟩ := rx
    cases y with
    | non => cases ry; exact PySem.EqNone.eq_str_none (fin_bl I q (by simp))
    | bl j => cases ry; exact PySem.EqMixed.eq_str_bool (fin_bl I q (by simp))
    | int j => obtain ⟨t', rfl⟩ := ry; exact PySem.EqMixed.eq_str_int (fin_bl I q (by simp))
    | str j => obtain ⟨t', rfl⟩ := ry; exact eq_str (fin_bl I q dec_str)
    | _ => exact absurd (show false = true from hs) Bool.false_ne_true
  | byt i =>
    obtain ⟨t, rfl⟩ := rx
    cases y with
    | byt j => obtain ⟨t', rfl⟩ := ry; exact PySem.W.eq_bytes (fin_bl I q dec_byt)
    | _ => exact absurd (show false = true from hs) Bool.false_ne_true
  | _ => cases y <;> exact absurd (show false = true from hs) Bool.false_ne_true
theorem op_ne : OpR X (compareOp .NotEq) rNe := by
  intro pins s σ H x y v u Q I rx ry h
  obtain ⟨hs, q⟩ := h
  cases x with
  | non =>
    cases rx
    cases y with
    | non => cases ry; exact PySem.EqNone.ne_none_none (fin_bl I q (by simp))
    | bl j => cases ry; exact PySem.EqNone.ne_none_bool (fin_bl I q (by simp))
    | int j => obtain ⟨t', rfl⟩ := ry; exact PySem.EqNone.ne_none_int (fin_bl I q (by simp))
    | str j => obtain ⟨t', rfl⟩ := ry; exact PySem.EqNone.ne_none_str (fin_bl I q (by simp))
    | _ => exact absurd (show false = true from hs) Bool.false_ne_true
  | bl i =>
    cases rx
    cases y with
    | non => cases ry; exact PySem.EqNone.ne_bool_none (fin_bl I q (by simp))
    | bl j => cases ry; exact ne_bool (fin_bl I q (congrArg not dec_bl))
    | str j => obtain ⟨t', rfl⟩ := ry; exact PySem.EqMixed.ne_bool_str (fin_bl I q (by simp))
    | _ => exact absurd (show false = true from hs) Bool.false_ne_true
  | int i =>
    obtain ⟨t, rfl⟩ := rx
    cases y with
    | non => cases ry; exact PySem.EqNone.ne_int_none (fin_bl I q (by simp))
    | int j => obtain ⟨t', rfl⟩ := ry; exact ne_int (fin_bl I q (congrArg not dec_int))
    | str j => obtain ⟨t', rfl⟩ := ry; exact PySem.EqMixed.ne_int_str (fin_bl I q (by simp))
    | _ => exact absurd (show false = true from hs) Bool.false_ne_true
  | str i =>
    obtain ⟨t, rfl⟩ := rx
    cases y with
    | non => cases ry; exact PySem.EqNone.ne_str_none (fin_bl I q (by simp))
    | bl j => cases ry; exact PySem.EqMixed.ne_str_bool (fin_bl I q (by simp))
    | int j => obtain ⟨t', rfl⟩ := ry; exact PySem.EqMixed.ne_str_int (fin_bl I q (by simp))
    | str j => obtain ⟨t', rfl⟩ := ry; exact ne_str (fin_bl I q (congrArg not dec_str))
    | _ => exact absurd (show false = true from hs) Bool.false_ne_true
  | byt i =>
    obtain ⟨t, rfl⟩ := rx
    cases y with
    | byt j => obtain ⟨t', rfl⟩ := ry; exact PySem.W.ne_bytes (fin_bl I q (congrArg not dec_byt))
    | _ => exact absurd (show false = true from hs) Bool.false_ne_true
  | _ => cases y <;> exact absurd (show false = true from hs) Bool.false_ne_true
theorem op_lt : OpR X (compareOp .Lt) (rI0 fun i j => .bl (decide (i < j))) := opB0 fun _ _ _ _ _ _ _ q => lt_int q
theorem op_le : OpR X (compareOp .LtE) (rI0 fun i j => .bl (decide (i ≤ j))) := opB0 fun _ _ _ _ _ _ _ q => le_int q
theorem op_gt : OpR X (compareOp .Gt) (rI0 fun i j => .bl (decide (j < i))) := opB0 fun _ _ _ _ _ _ _ q => gt_int q
theorem op_ge : OpR X (compareOp .GtE) (rI0 fun i j => .bl (decide (j ≤ i))) := opB0 fun _ _ _ _ _ _ _ q => ge_int q
theorem nomark (b : Expr) {op : CmpOp} (h : op ≠ .In := by decide) (h2 : op ≠ .NotIn := by decide) : behindInMarks op b = false := by
  have e1 : (op == CmpOp.In) = false := by cases op <;> first | rfl | exact absurd rfl h
  have e2 : (op == CmpOp.NotIn) = false := by cases op <;> first | rfl | exact absurd rfl h2
  cases b <;> simp [behindInMarks, e1, e2]
theorem pe_cmpR {op : CmpOp} {r : R2} (ho : OpR X (compareOp op) r) (ha : PE X a ta) (hb : PE X b tb) (hm : behindInMarks op b = false) : PE X (.Compare a [op] [b] pos) (tOp r ta tb) := by
  intro pins s σ H Q I h
  exact wpAny_Compare1 (binT ha hb I h fun v u s2 x y H2 I2 rx ry q => ho pins s2 σ H2 x y v u Q I2 rx ry q) hm
def tTest (t : TE) : TT := fun σ H Q => t σ H fun x H' => ∃ k, x = .bl k ∧ Q k H'
theorem pt_cmpR {op : CmpOp} {r : R2} (ho : OpR X (compareOp op) r) (ha : PE X a ta) (hb : PE X b tb) (hm : behindInMarks op b = false) : PT X (.Compare a [op] [b] pos) (tTest (tOp r ta tb)) := by
  intro pins s σ H Q I h
  refine wpAny_isTrue_Compare1 (thn (ha pins s σ H _ I h) fun v s1 ⟨x, H1, I1, r1, q1⟩ => thn (hb pins s1 σ H1 _ I1 q1) fun u s2 ⟨y, H2, I2, r2, q2⟩ =>
    thn (ho pins s2 σ H2 x y v u _ I2 r1 r2 q2) fun c s3 ⟨z, H3, I3, r3, k, e, q3⟩ => ?_) hm
  subst e
  cases r3
  exact wpAny_truthy_bool ⟨H3, I3, q3⟩
def tChain (r r' : R2) (ta tb tc : TE) : TE := fun σ H Q => ta σ H fun x H1 => tb σ H1 fun y H2 => r x y H2 fun z H3 => ∃ k, z = .bl k ∧
  (if k = true then tc σ H3 fun w' H4 => r' y w' H4 Q else Q (.bl false) H3)
theorem pe_chain {op op' : CmpOp} {r r' : R2} (ho : OpR X (compareOp op) r) (ho' : OpR X (compareOp op') r') (ha : PE X a ta) (hb : PE X b tb) (hc : PE X c tc)
    (hm : lastMarks [op, op'] [b, c] = false := by with_unfolding_all rfl) : PE X (.Compare a [op, op'] [b, c] pos) (tChain r r' ta tb tc) := by
  intro pins s σ H Q I h
  refine Compare_chain (thn (ha pins s σ H _ I h) fun v s1 ⟨x, H1, I1, r1, q1⟩ => chain_link (thn (hb pins s1 σ H1 _ I1 q1) fun u s2 ⟨y, H2, I2, r2, q2⟩ =>
    thn (ho pins s2 σ H2 x y v u _ I2 r1 r2 q2) fun d s3 ⟨z, H3, I3, r3, k, e, q3⟩ => ?_)) hm
  subst e
  cases r3
  refine wpAny_truthy_bool ?_
  cases k with
  | false => exact ite_ff ⟨.bl false, H3, I3, rfl, q3⟩
  | true => exact ite_tt (chain_last (thn (hc pins s3 σ H3 _ I3 q3) fun w' s4 ⟨z', H4, I4, r4, q4⟩ => ho' pins s4 σ H4 y z' u w' Q I4 r2 r4 q4))
theorem line63 : (sizeLine : Nat) < 2 ^ 63 := by rw [sizeLine_eq]; decide
theorem vals1 {x : V} {us : List Value} (r : Vals [x] us) : ∃ u, us = [u] ∧ RelV x u := by
  cases r with
  | cons r1 r2 => cases r2; exact ⟨_, rfl, r1⟩
end
end L2
namespace L2
open PySem PySem.Spec PyProof.Rows
structure ObjM (h : Heap) (x dx C : Addr) (mA : Str → Option Value) : Prop where
  obj : h.get? x = some (PySem.W.instObj C dx)
  ns : h.Ns1 dx mA
  ne : dx ≠ x
theorem lookIn_ns {h : Heap} {dx : Addr} {mA : Str → Option Value} (n : h.Ns1 dx mA) : ∃ od, h.get? dx = some od ∧ ∀ name, PySem.W.lookIn name od = some (mA name) := by
  obtain ⟨o, es, ep, ho, hd, hk, _, hm⟩ := n
  refine ⟨o, ho, fun name => ?_⟩
  have e := hm name
  unfold nsFind findBy at e
  rw [← Array.find?_toList] at e
  unfold PySem.W.lookIn
  rw [hd]
  dsimp only
  split
  · rename_i y q
    rw [q] at e
    exact congrArg some e
  · rename_i q
    rw [q] at e
    have a : es.toList.any (·.refKey) = false := by
      rw [List.any_eq_false]
      intro y hy
      obtain ⟨z, t, hkey⟩ := hk y (Array.mem_toList_iff.mp hy)
      simp [DictEntry.refKey, hkey]
    have a' : ¬ es.toList.any (·.refKey) = true := by rw [a]; exact Bool.false_ne_true
    rw [if_neg a']
    exact congrArg some e
theorem ObjM.look {h : Heap} {x dx C : Addr} {mA : Str → Option Value} (I : ObjM h x dx C mA) : ∃ od, PySem.W.InstAt h x (PySem.W.instObj C dx) C (some od) ∧ ∀ name, PySem.W.lookIn name od = some (mA name) :=
  let ⟨od, ho, hl⟩ := lookIn_ns I.ns
  ⟨od, ⟨I.obj, rfl, rfl, ho⟩, hl⟩
section
variable {prog : Program} {w : World} {A : Around} {E : Value → Shared → Prop} {s : Shared} {K : PySem.W.Frag} {x dx C f : Addr} {mA : Str → Option Value} {name : Str} {v : Value}
theorem get_map {expr : Bool} {Q : Value → Shared → Prop} (X : K.In s.heap) (I : ObjM s.heap x dx C mA) (hg : PySem.W.plainGet K C name = true) (hh : PySem.W.hasDictIn K C = true)
    (ha : PySem.W.findIn K (.ref C) name = some none) (hv : mA name = some v) (hv' : PySem.W.handedIn v = true) (h : Q v { s with toks := s.toks + 1 }) :
    wpAny (model prog w) A (getAttr (.ref x) name expr) Q E s := by
  obtain ⟨od, J, hl⟩ := I.look
  exact PySem.W.get_value X J (PySem.W.plainGet_of hg).1 (PySem.W.findObj_own hh ha rfl (by rw [hl, hv])) hv' h
theorem get_meth {pl : Sem Bool} {Q : Value × List Value → Shared → Prop} (X : K.In s.heap) (I : ObjM s.heap x dx C mA) (hg : PySem.W.plainGet K C name = true)
    (hf : PySem.W.findIn K (.ref C) name = some (some (.ref f))) (ht : PySem.W.isFn K (.ref f) = true) (hv : mA name = none) (h : Q (.ref f, [.ref x]) s) :
    wpAny (model prog w) A (getMethod (.ref x) name pl) Q E s := by
  obtain ⟨od, J, hl⟩ := I.look
  exact PySem.W.method_fn X J (PySem.W.plainGet_of hg).1 (PySem.W.plainGet_of hg).2 hf (beq_iff_eq.mp ht) (by show (PySem.W.lookIn name od).map (·.isSome) = some false; rw [hl, hv]; rfl) h
theorem set_map {ns : List Str} {Q : Unit → Shared → Prop} (X : K.In s.heap) (I : ObjM s.heap x dx C mA)
    (hs : PySem.W.findIn K (.ref C) "__setattr__" = some (some (.builtin "object.__setattr__"))) (hp : PySem.W.plainOver K C = true) (ht : PySem.W.takerIn K C name = some none) (hh : PySem.W.hasDictIn K C = true)
    (hw : PySem.Within mA ns) (hsz : ns.length ≤ sizeLine)
    (h : ∀ h', ObjM h' x dx C (fun y => if y = name then some v else mA y) → Heap.SameBut dx s.heap h' → Q () { s with heap := h', toks := s.toks + 2 }) :
    wpAny (model prog w) A (setAttr (.ref x) name v) Q E s := by
  obtain ⟨od, J, hl⟩ := I.look
  refine PySem.W.set_plain X J hs (PySem.W.osa_open (s := { s with toks := s.toks + 1 }) (r := none) X J hp ht fun b => ?_)
  obtain ⟨cd, hc, hd'⟩ := PySem.W.any_some hh
  have hx : s.heap.get? x = some ⟨.ref C, some dx, .plain, #[]⟩ := I.obj
  refine wpAny_bind (wpAny_pure (wpAny_bind (wpAny_bind (wpAny_loadPart hx (wpAny_bind (PySem.W.Looks.here (s := { s with toks := s.toks + 1 }) (PySem.W.looks_clsIn X hc) ?_))))))
  rw [hd']
  refine wpAny_pure (a := some dx) (wpAny_bind (wpAny_pure (wpAny_bind ?_)))
  refine wpAny_nsSet1 (s := { s with toks := s.toks + 1 }) I.ns fun h' hn2 hs2 => ?_
  obtain ⟨oD, esD, epD, hoD, hdD, hcD⟩ := hn2.count (PySem.Within.cons name v hw)
  refine wpAny_bind (wpAny_lookBehind hoD (by rw [hdD]; exact pastItsLine_dict (Nat.le_trans hcD (by rw [List.length_cons]; omega))) ?_)
  exact wpAny_pure (h _ ⟨(hs2.2 _ (Ne.symm I.ne)).trans I.obj, hn2, I.ne⟩ hs2)
theorem make_map {R : Result → Shared → Prop} {vs : List Value} {kw : List (Str × Value)} (X : K.In s.heap) (hm : PySem.W.makesIn K C = true)
    (hi : PySem.W.findIn K (.ref C) "__init__" = some (some (.ref f))) (hf : PySem.W.typeIn K (.ref f) = some (.type "function"))
    (h : codeAny (model prog w) (A.under (.builtin "type.__call__" ⟨.ref C :: vs, kw⟩)) (.call (.ref f) ⟨.ref (s.heap.objs.size + 1) :: vs, kw⟩) (PySem.W.InitBack (s.heap.objs.size + 1) R)
      { s with heap := (s.heap.push PySem.W.emptyDict).push (PySem.W.instObj C s.heap.objs.size) }) :
    codeAny (model prog w) A (.call (.ref C) ⟨vs, kw⟩) R s := by
  obtain ⟨hh, g, d, t, os⟩ := s
  exact PySem.W.make_core (PySem.W.makes_of X hm) (PySem.W.looks_findIn X hi) (fun self => PySem.W.bind_fn X self hf) (.inl rfl) h
end
def putF (f : Str) (v : V) : List (Str × V) → List (Str × V)
  | [] => [(f, v)]
  | (g, x) :: r => if g = f then (g, v) :: r else (g, x) :: putF f v r
theorem lookup_putF (f g : Str) (v : V) : ∀ fs : List (Str × V), (putF f v fs).lookup g = if g = f then some v else fs.lookup g
  | [] => by
    show List.lookup g [(f, v)] = _
    by_cases h : g = f
    · have hb : (g == f) = true := beq_iff_eq.mpr h
      simp only [List.lookup, hb, if_pos h]
    · have hb : (g == f) = false := beq_eq_false_iff_ne.mpr h
      simp only [List.lookup, hb, if_neg h]
  | (k, x) :: r => by
    have ih := lookup_putF f g v r
    rw [show putF f v ((k, x) :: r) = (if k = f then (k, v) :: r else (k, x) :: putF f v r) from rfl]
    by_cases hk : k = f
    · rw [if_pos hk]
      by_cases h : g = k
      · have hb : (g == k) = true := beq_iff_eq.mpr h
        simp only [List.lookup, hb, if_pos (h.trans hk)]
      · have hb : (g == k) = false := beq_eq_false_iff_ne.mpr h
        simp only [List.lookup, hb, if_neg (fun e : g = f => h (e.trans hk.symm))]
    · rw [if_neg hk]
      by_cases h : g = k
      · have hb : (g == k) = true := beq_iff_eq.mpr h
        simp only [List.lookup, hb, if_neg (fun e : g = f => hk (h.symm.trans e))]
      · have hb : (g == k) = false := beq_eq_false_iff_ne.mpr h
        simp only [List.lookup, hb]
        exact ih
theorem keys_putF (f : Str) (v : V) : ∀ fs : List (Str × V), f ∈ (putF f v fs).map (·.1) ∧ ∀ g, g ∈ fs.map (·.1) → g ∈ (putF f v fs).map (·.1)
  | [] => ⟨by simp [putF], fun g h => by simp at h⟩
  | (k, x) :: r => by
    obtain ⟨i1, i2⟩ := keys_putF f v r
    rw [show putF f v ((k, x) :: r) = (if k = f then (k, v) :: r else (k, x) :: putF f v r) from rfl]
    by_cases hk : k = f
    · rw [if_pos hk]
      subst hk
      exact ⟨by simp, fun g h => by simpa using h⟩
    · rw [if_neg hk]
      refine ⟨?_, fun g h => ?_⟩
      · rw [List.map_cons]
        exact List.mem_cons_of_mem _ i1
      · rw [List.map_cons] at h ⊢
        rcases List.mem_cons.mp h with e | e
        · exact List.mem_cons.mpr (.inl e)
        · exact List.mem_cons_of_mem _ (i2 g e)
theorem length_putF (f : Str) (v : V) : ∀ fs : List (Str × V), (putF f v fs).length ≤ fs.length + 1
  | [] => by simp [putF]
  | (k, x) :: r => by
    have ih := length_putF f v r
    rw [show putF f v ((k, x) :: r) = (if k = f then (k, v) :: r else (k, x) :: putF f v r) from rfl]
    by_cases hk : k = f
    · rw [if_pos hk, List.length_cons, List.length_cons]; omega
    · rw [if_neg hk, List.length_cons, List.length_cons]; omega
theorem RelO.some_of {v : V} {o : Option Value} (r : RelO (some v) o) : ∃ u, o = some u ∧ RelV v u := by
  cases o with
  | none => exact (show False from r).elim
  | some u => exact ⟨u, rfl, r⟩
theorem RelO.none_of {o : Option Value} (r : RelO none o) : o = none := by
  cases o with
  | none => rfl
  | some u => exact (show False from r).elim
theorem handed_of {v : V} {u : Value} (r : RelV v u) : PySem.W.handedIn u = true := by
  cases v with
  | non => cases (show u = Value.none from r); rfl
  | bl b => cases (show u = Value.bool b from r); rfl
  | int i => obtain ⟨t, e⟩ := (show ∃ t, u = Value.int i t from r); cases e; rfl
  | str x => obtain ⟨t, e⟩ := (show ∃ t, u = Value.str x t from r); cases e; rfl
  | byt b => obtain ⟨t, e⟩ := (show ∃ t, u = Value.bytes b t from r); cases e; rfl
  | flt b => obtain ⟨t, e⟩ := (show ∃ t, u = Value.float b t from r); cases e; rfl
  | ref a => cases (show u = Value.ref a from r); rfl
  | ty n => cases (show u = Value.type n from r); rfl
section
variable {P : Program} {w : World} {H H' : Hp} {h h' : Heap} {a C dx : Addr} {fs fs' : List (Str × V)}
theorem ins_get (hok : HOk P w H h) (e : H a = some (.ins C dx fs)) : ∃ mA, ObjM h a dx C mA ∧ (∀ f, RelO (fs.lookup f) (mA f)) ∧ PySem.Within mA (fs.map (·.1)) ∧ fs.length ≤ 1000 ∧ H dx = some (.own a) := by
  obtain ⟨d, z, ne, ob, mA, n, r, q⟩ := (show ObjOk P w H h a (.ins C dx fs) from hok a _ e)
  exact ⟨mA, ⟨ob, n, ne⟩, r, q, z, d⟩
end
structure Cls (K : PySem.W.Frag) (C : Addr) : Prop where
  pg : PySem.W.plainGet K C Str.empty = true
  hd : PySem.W.hasDictIn K C = true
  po : PySem.W.plainOver K C = true
  sa : PySem.W.findIn K (.ref C) "__setattr__" = some (some (.builtin "object.__setattr__"))
theorem Cls.get {K : PySem.W.Frag} {C : Addr} (c : Cls K C) (f : Str) : PySem.W.plainGet K C f = true := c.pg
def NoAttr (K : PySem.W.Frag) (C : Addr) (f : Str) : Prop := PySem.W.findIn K (.ref C) f = some none
theorem NoAttr.taker {K : PySem.W.Frag} {C : Addr} {f : Str} (n : NoAttr K C f) : PySem.W.takerIn K C f = some none := by
  unfold PySem.W.takerIn
  rw [show PySem.W.findIn K (.ref C) f = some none from n]
  rfl
structure Meth (K : PySem.W.Frag) (C : Addr) (m : Str) (f : Addr) : Prop where
  at_ : PySem.W.findIn K (.ref C) m = some (some (.ref f))
  fn : PySem.W.isFn K (.ref f) = true
  kp : PySem.W.keepIn K (.ref f) = true
section
variable {X : Cx} {pins : List (Addr × Obj)} {σ : St} {H : Hp} {s : Shared} {a C dx : Addr} {fs : List (Str × V)} {f : Str} {v : V} {A : Around} {E : Value → Shared → Prop}
theorem getattr_ok {b : Bool} {Q : Value → Shared → Prop} (I : Inv X pins σ H s) (e : H a = some (.ins C dx fs)) (c : Cls X.K C) (n : NoAttr X.K C f) (l : fs.lookup f = some v)
    (h : ∀ u s', Inv X pins σ H s' → RelV v u → Q u s') : wpAny (model X.prog X.w) A (getAttr (.ref a) f b) Q E s := by
  obtain ⟨mA, O, r, _, _, _⟩ := ins_get I.hok e
  obtain ⟨u, hu, ru⟩ := RelO.some_of (v := v) (o := mA f) (by rw [← l]; exact r f)
  exact get_map I.kIn O (c.get f) c.hd n hu (handed_of ru) (h u _ (I.tok _) ru)
theorem getmeth_ok {m : Str} {g : Addr} {pl : Sem Bool} {Q : Value × List Value → Shared → Prop} (I : Inv X pins σ H s) (e : H a = some (.ins C dx fs)) (c : Cls X.K C) (k : Meth X.K C m g) (l : fs.lookup m = none)
    (h : Q (.ref g, [.ref a]) s) : wpAny (model X.prog X.w) A (getMethod (.ref a) m pl) Q E s := by
  obtain ⟨mA, O, r, _, _, _⟩ := ins_get I.hok e
  have hn : mA m = none := RelO.none_of (by rw [← l]; exact r m)
  exact get_meth I.kIn O (c.get m) k.at_ k.fn hn h
theorem setattr_ok {y : V} {u : Value} {Q : Unit → Shared → Prop} (I : Inv X pins σ H s) (e : H a = some (.ins C dx fs)) (c : Cls X.K C) (n : NoAttr X.K C f) (hl : fs.length < 1000) (ry : RelV y u)
    (h : ∀ s', Inv X pins σ (upd H a (.ins C dx (putF f y fs))) s' → Q () s') : wpAny (model X.prog X.w) A (setAttr (.ref a) f u) Q E s := by
  obtain ⟨mA, O, r, wi, _, ho⟩ := ins_get I.hok e
  have hz : (fs.map (·.1)).length ≤ sizeLine := by rw [List.length_map, sizeLine_eq]; omega
  refine set_map I.kIn O c.sa c.po n.taker c.hd wi hz fun h' O' sb => h _ ?_
  have hd : ∃ o, h'.get? dx = some o := let ⟨o, _, _, e', _⟩ := O'.ns; ⟨o, e'⟩
  refine I.write (x := a) (e := dx) (by rw [e]; exact True.intro) (.inr ho) (fun b q hb z => (sb.2 b hb).trans z) hd ?_
  refine ⟨by rw [upd_ne O.ne]; exact ho, ?_, O.ne, O'.obj, _, O'.ns, fun g => ?_, fun g hg => ?_⟩
  · have := length_putF f y fs; omega
  · show RelO ((putF f y fs).lookup g) (if g = f then some u else mA g)
    rw [lookup_putF]
    by_cases q : g = f
    · rw [if_pos q, if_pos q]; exact ry
    · rw [if_neg q, if_neg q]; exact r g
  · by_cases q : g = f
    · rw [q]; exact (keys_putF f y fs).1
    · refine (keys_putF f y fs).2 g (wi g fun z => hg ?_)
      show (if g = f then some u else mA g) = none
      rw [if_neg q]; exact z
theorem Inv.made (I : Inv X pins σ H s) : Inv X pins σ (upd (upd H s.heap.objs.size (.own (s.heap.objs.size + 1))) (s.heap.objs.size + 1) (.ins C s.heap.objs.size []))
    { s with heap := (s.heap.push PySem.W.emptyDict).push (PySem.W.instObj C s.heap.objs.size) } := by
  have e1 : (s.heap.push PySem.W.emptyDict).get? s.heap.objs.size = some PySem.W.emptyDict := Heap.get?_push_size s.heap rfl
  have e2 : ((s.heap.push PySem.W.emptyDict).push (PySem.W.instObj C s.heap.objs.size)).get? (s.heap.objs.size + 1) = some (PySem.W.instObj C s.heap.objs.size) := by
    have := Heap.get?_push_size (s.heap.push PySem.W.emptyDict) (o := PySem.W.instObj C s.heap.objs.size) rfl
    rwa [Heap.size_push] at this
  have e3 : (s.heap.push PySem.W.emptyDict).Ns s.heap.objs.size (fun _ => none) := ⟨PySem.W.emptyDict, #[], _, e1, rfl, (fun e he => absurd he (by simp)), fun _ => rfl⟩
  have I1 := I.laid (a := s.heap.objs.size) (o := .own (s.heap.objs.size + 1)) (h' := s.heap.push PySem.W.emptyDict) (t' := s.toks) (fun b u q => Heap.get?_push_of_some _ q) (Nat.le_refl _) ⟨_, e1⟩
  refine I1.laid (a := s.heap.objs.size + 1) (o := .ins C s.heap.objs.size []) (t' := s.toks) (fun b u q => Heap.get?_push_of_some _ q) (Nat.le_of_eq (Heap.size_push _ _)) ?_
  have ne : s.heap.objs.size ≠ s.heap.objs.size + 1 := Nat.ne_of_lt (Nat.lt_succ_self _)
  refine ⟨by rw [upd_ne ne, upd_same], Nat.zero_le _, ne, e2, fun _ => none, (Heap.Ns1.of_empty e3).at fun o q => Heap.get?_push_of_some _ q, fun _ => True.intro, fun y hy => absurd rfl hy⟩
theorem attr_of {prog : Program} {w : World} {env : Env} {e : Expr} {f : Str} {pos : Pos} {s : Shared} {Q : Value → Shared → Prop} (hb : attributeBase e f env (eval e env) = eval e env)
    (h : wpAny (model prog w) A (eval e env) (fun o s₁ => wpAny (model prog w) A (getAttr o f true) Q E s₁) E s) : wpAny (model prog w) A (eval (.Attribute e f pos) env) Q E s :=
  Attribute_any_ h (by rw [arm_eval_Attribute, hb])
end
def tFld (K : PySem.W.Frag) (ta : TE) (f : Str) : TE := fun σ H Q => ta σ H fun x H1 => ∃ a C dx fs v, x = .ref a ∧ H1 a = some (.ins C dx fs) ∧ Cls K C ∧ NoAttr K C f ∧ fs.lookup f = some v ∧ Q v H1
def sFld (K : PySem.W.Frag) (ta tv : TE) (f : Str) : TS := fun D σ H => tv σ H fun y H1 => ta σ H1 fun x H2 => ∃ a C dx fs, x = .ref a ∧ H2 a = some (.ins C dx fs) ∧ Cls K C ∧ NoAttr K C f ∧ fs.length < 1000 ∧
  D.nx σ (upd H2 a (.ins C dx (putF f y fs)))
section
variable {X : Cx} {o e value : Expr} {f : Str} {pos pos' tpos : Pos} {ta tv : TE}
theorem pe_fld (he : PE X e ta) (hb : attributeBase e f X.env (eval e X.env) = eval e X.env) : PE X (.Attribute e f pos) (tFld X.K ta f) := by
  intro pins s σ H Q I h
  refine attr_of hb (thn (he pins s σ H _ I h) fun u s1 ⟨x, H1, I1, rx, a, C, dx, fs, v, ex, ea, c, n, l, q⟩ => ?_)
  subst ex
  obtain rfl : u = Value.ref a := rx
  exact getattr_ok I1 ea c n l fun u' s2 I2 ru => ⟨v, H1, I2, ru, q⟩
theorem ps_fld (ha : PE X o ta) (hv : PE X value tv) (hs : swapsWith value (some (.Attribute o f pos')) pos.line X.env = pure false) : PS X (.Assign [.Attribute o f pos'] value pos) (sFld X.K ta tv f) := by
  intro pins s σ H D I h
  refine plainObj_wpAny_Assign_Attribute (thn (hv pins s σ H _ I h) fun u s1 ⟨y, H1, I1, ry, q⟩ => thn (ha pins s1 σ H1 _ I1 q) fun ov s2 ⟨x, H2, I2, rx, a, C, dx, fs, ex, ea, c, n, l, q2⟩ => ?_) hs
  subst ex
  obtain rfl : ov = Value.ref a := rx
  exact setattr_ok I2 ea c n l ry fun s3 I3 => ⟨σ, _, I3, q2⟩
end
section
variable {X : Cx} {pins : List (Addr × Obj)} {σ : St} {H : Hp} {s : Shared} {A : Around} {E : Value → Shared → Prop} {Q : Value → Shared → Prop} {c : Value} {b : Bool}
end
end L2
namespace L2
open PySem PySem.Spec PyProof.Rows
structure Room (k : Nat) (A : Around) : Prop where
  hd : A.handled = none
  dp : A.depth + 3 * k + 5 < recursionLimit
  un : A.units + 16 * k + 200 < cLine
theorem Room.mono {j k : Nat} {A : Around} (r : Room k A) (h : j ≤ k) : Room j A := ⟨r.hd, by have := r.dp; omega, by have := r.un; omega⟩
theorem Room.deeper {k : Nat} {A : Around} (r : Room (k + 1) A) (env : Env) : Room k (A.deeper env) :=
  ⟨r.hd, by have := r.dp; show A.depth + 1 + 3 * k + 5 < _; omega, by have := r.un; show A.units + 3 + 16 * k + 200 < _; omega⟩
theorem make_depth {A : Around} {C : Addr} {us : List Value} {kw : List (Str × Value)} : (A.under (.builtin "type.__call__" ⟨.ref C :: us, kw⟩)).depth = A.depth + 1 := by
  first | rfl | simp [Around.under, Code.weight, Code.isCreation, Code.isGuard, Code.isCaller, Code.frames, Code.isFrame, guardIds]
theorem make_units {A : Around} {C : Addr} {us : List Value} {kw : List (Str × Value)} : (A.under (.builtin "type.__call__" ⟨.ref C :: us, kw⟩)).units = A.units + 1 := by
  first | rfl | simp [Around.under, Code.cUnits, Code.frames, Code.isFrame]
theorem Room.make {k : Nat} {A : Around} (r : Room (k + 1) A) (C : Addr) (us : List Value) (kw : List (Str × Value)) : Room k (A.under (.builtin "type.__call__" ⟨.ref C :: us, kw⟩)) :=
  ⟨r.hd, by have := r.dp; rw [make_depth]; omega, by have := r.un; rw [make_units]; omega⟩
theorem Room.depth {k : Nat} {A : Around} (r : Room k A) : A.depth < recursionLimit := by have := r.dp; omega
def tNil : TA := fun _ H Q => Q [] H
def tCons (ta : TE) (tr : TA) : TA := fun σ H Q => ta σ H fun x H1 => tr σ H1 fun xs H2 => Q (x :: xs) H2
section
variable {X : Cx} {e : Expr} {es : List Expr} {te : TE} {t : TA} {pos : Pos}
theorem pa_nil : PA X [] tNil := fun _ _ _ _ H Q I h => Calls.spliced_nil ⟨[], H, I, .nil, h⟩
theorem pa_cons (ha : PE X e te) (hr : PA X es t) (hs : starEach (e :: es) X.env = (false, eval e X.env) :: starEach es X.env := by rfl) : PA X (e :: es) (tCons te t) := by
  intro pos pins s σ H Q I h
  rw [hs]
  show wpAny _ _ (spliced ((false, eval e X.env) :: backTo pos (starEach es X.env))) _ _ s
  refine Calls.spliced_cons (thn (ha pins s σ H _ I h) fun u s1 ⟨x, H1, I1, r1, q1⟩ => ?_)
  exact thn (hr pos pins s1 σ H1 _ I1 q1) fun us s2 ⟨xs, H2, I2, r2, q2⟩ => ⟨x :: xs, H2, I2, .cons r1 r2, q2⟩
def tTup (t : TA) : TE := fun σ H Q => t σ H fun xs H1 => xs.length ≤ sizeLine ∧ ∀ p, H1 p = none → Q (.ref p) (upd H1 p (.tup xs))
def tLst (t : TA) : TE := fun σ H Q => t σ H fun xs H1 => xs.length ≤ sizeLine ∧ ∀ p, H1 p = none → Q (.ref p) (upd H1 p (.lst xs))
theorem pe_tup {x1} (h : PA X es t) : PE X (.Tuple es x1 pos) (tTup t) := by
  intro pins s σ H Q I hq
  refine wpAny_Tuple_spliced (thn (h pos pins s σ H _ I hq) fun us s1 ⟨xs, H1, I1, r, z, q⟩ => ⟨by rw [← r.length]; exact z, ?_⟩)
  have hf : H1 s1.heap.objs.size = none := I1.hok.fresh (Nat.le_refl _)
  refine ⟨.ref s1.heap.objs.size, upd H1 s1.heap.objs.size (.tup xs), I1.laid (t' := s1.toks) (fun b u e => Heap.get?_push_of_some _ e) (Nat.le_refl _) ?_, rfl, q _ hf⟩
  exact ⟨z, us, r, ⟨_, Heap.get?_push_size _ rfl, rfl, _, rfl⟩⟩
theorem pe_lst (h : PA X es t) : PE X (.List es pos) (tLst t) := by
  intro pins s σ H Q I hq
  refine wpAny_List_spliced (thn (h pos pins s σ H _ I hq) fun us s1 ⟨xs, H1, I1, r, z, q⟩ => ⟨by rw [← r.length]; exact z, ?_⟩)
  have hf : H1 s1.heap.objs.size = none := I1.hok.fresh (Nat.le_refl _)
  refine ⟨.ref s1.heap.objs.size, upd H1 s1.heap.objs.size (.lst xs), I1.laid (t' := s1.toks) (fun b u e => Heap.get?_push_of_some _ e) (Nat.le_refl _) ?_, rfl, q _ hf⟩
  exact ⟨z, us, 0, r, Heap.get?_push_size _ rfl⟩
end
abbrev Sp := List V → Hp → VK → XK → Prop
abbrev CXT := List Env → Hp → Shared → XK → Value → Shared → Prop
structure Env0 (P : Program) (w : World) (K : PySem.W.Frag) (mg : Str → Option Value) (base : Heap) (A : Around) (outer : List Env) (s : Shared) (H : Hp) : Prop where
  frames : A.frames = some outer
  mod : Mod K mg base
  bs : ∀ b o, base.get? b = some o → s.heap.get? b = some o ∧ H b = none
  bsz : base.objs.size ≤ s.heap.objs.size
  funs : s.heap.FunFrames base outer
  frf : ∀ b ∈ frs outer, H b = none
  hok : HOk P w H s.heap
  bare : AllBare s.gens
def CE (outer : List Env) (P : Program) (w : World) (H : Hp) (s : Shared) (Q : VK) (u : Value) (s' : Shared) : Prop :=
  ∃ v H', s'.os = s.os ∧ AllBare s'.gens ∧ Un (frs outer) [] H H' s.heap s'.heap ∧ HOk P w H' s'.heap ∧ RelV v u ∧ Q v H'
def CR (CX : CXT) (outer : List Env) (P : Program) (w : World) (H : Hp) (s : Shared) (Q : VK) (E : XK) (r : Result) (s' : Shared) : Prop :=
  match r with
  | .ok (.ret u) => CE outer P w H s Q u s'
  | .ok _ => False
  | .error e => CX outer H s E e s'
structure FnOk (P : Program) (w : World) (K : PySem.W.Frag) (mg : Str → Option Value) (base : Heap) (CX : CXT) (k : Nat) (f : Addr) (fd : FuncData) (ps : List Str) (sp : Sp) : Prop where
  len : ∀ vs H Q E, sp vs H Q E → vs.length = ps.length
  run : ∀ (A : Around) (outer : List Env) (s : Shared) (H : Hp) (args : Args) (us : List Value) (vs : List V) (Q : VK) (E : XK), Room k A → Env0 P w K mg base A outer s H → BindsTo s fd args (ps.zip us) → Vals vs us → sp vs H Q E →
    codeAny (model P w) A (.call (.ref f) args) (CR CX outer P w H s Q E) s
theorem Env0.make {P : Program} {w : World} {K : PySem.W.Frag} {mg : Str → Option Value} {base : Heap} {A : Around} {outer : List Env} {s : Shared} {H : Hp} (e : Env0 P w K mg base A outer s H) (C : Addr) (us : List Value) (kw : List (Str × Value)) :
    Env0 P w K mg base (A.under (.builtin "type.__call__" ⟨.ref C :: us, kw⟩)) outer s H := ⟨by first | exact e.frames | (simpa [Around.under, Code.envs, Code.isFrame, pushEnvs] using e.frames), e.mod, e.bs, e.bsz, e.funs, e.frf, e.hok, e.bare⟩
section
variable {X : Cx} {pins : List (Addr × Obj)} {σ : St} {H : Hp} {s s' : Shared}
theorem Inv.env0 (I : Inv X pins σ H s) : Env0 X.prog X.w X.K X.mg X.base X.A X.stack s H :=
  ⟨I.ok.frames, I.ok.mod, I.bs, Nat.le_trans I.ok.bsz I.sz, I.stack, I.stkFree, I.hok, I.bare⟩
theorem Inv.after {Q : VK} {u : Value} (I : Inv X pins σ H s) (h : CE X.stack X.prog X.w H s Q u s') : EP X pins σ Q u s' := by
  obtain ⟨v, H', os, bare, un, hok, r, q⟩ := h
  obtain ⟨hh, g, d, t, os'⟩ := s'
  obtain rfl : os' = s.os := os
  exact ⟨v, H', I.call (h' := hh) (g' := g) (d' := d) (t' := t) (ch := []) un hok bare (fun b z => absurd z (by simp)), r, q⟩
end
def tCall (sp : Sp) (dvs : List V) (E : XK) (t : TA) : TE := fun σ H Q => t σ H fun vs H1 => sp (vs ++ dvs) H1 Q E
def tMeth (C : Addr) (m : Str) (sp : Sp) (dvs : List V) (E : XK) (ta : TE) (t : TA) : TE := fun σ H Q => ta σ H fun x H1 => ∃ a dx fs, x = .ref a ∧ H1 a = some (.ins C dx fs) ∧ fs.lookup m = none ∧
  t σ H1 fun vs H2 => sp (x :: (vs ++ dvs)) H2 Q E
def tMake (C : Addr) (sp : Sp) (dvs : List V) (E : XK) (t : TA) : TE := fun σ H Q => t σ H fun vs H1 => ∀ x dx, H1 x = none → H1 dx = none → dx ≠ x →
  sp (.ref x :: (vs ++ dvs)) (upd (upd H1 dx (.own x)) x (.ins C dx [])) (fun v H2 => v = .non ∧ Q (.ref x) H2) E
def Binds (K : PySem.W.Frag) (fd : FuncData) (ps : List Str) (ds : List Value) : Prop :=
  ∀ (s : Shared) (us : List Value), K.In s.heap → (us ++ ds).length = ps.length → BindsTo s fd ⟨us, []⟩ (ps.zip (us ++ ds))
theorem Binds.all {K : PySem.W.Frag} {fd : FuncData} {ps : List Str} (h : ∀ us : List Value, us.length = ps.length → bindArgs fd ⟨us, []⟩ = pure (ps.zip us)) : Binds K fd ps [] := fun s us _ hl => by
  rw [List.append_nil] at hl ⊢
  exact .of_eq (h us hl)
def Passes (CX : CXT) (X : Cx) (E : XK) : Prop := ∀ (pins : List (Addr × Obj)) (σ : St) (H : Hp) (s : Shared) (e : Value) (s' : Shared), Inv X pins σ H s → CX X.stack H s E e s' → X.xe e s'
section
variable {X : Cx} {CX : CXT} {k : Nat} {f C : Addr} {fd : FuncData} {ps : List Str} {sp : Sp} {dvs : List V} {ds : List Value} {E : XK} {x m : Str} {p pos apos : Pos} {e o : Expr} {es : List Expr} {ta : TE} {t : TA}
theorem run_fn {pins : List (Addr × Obj)} {σ : St} {H : Hp} {s : Shared} {Q : VK} {us : List Value} {vs : List V} (F : FnOk X.prog X.w X.K X.mg X.base CX k f fd ps sp) (hr : Room k X.A) (hb : Binds X.K fd ps ds) (hd : Vals dvs ds) (hx : Passes CX X E)
    (I : Inv X pins σ H s) (r : Vals vs us) (h : sp (vs ++ dvs) H Q E) : wpAny (model X.prog X.w) X.A (call (.ref f) us) (EP X pins σ Q) X.xe s := by
  have r2 : Vals (vs ++ dvs) (us ++ ds) := r.append hd
  have hl : (us ++ ds).length = ps.length := by rw [← r2.length]; exact F.len _ _ _ _ h
  refine wpAny_call (codeAny_mono (F.run X.A X.stack s H ⟨us, []⟩ (us ++ ds) (vs ++ dvs) Q E hr I.env0 (hb s us I.kIn hl) r2 h) fun r s' hq => ?_)
  cases r with
  | error e => exact hx pins σ H s e s' I hq
  | ok fl =>
    cases fl with
    | ret u => exact I.after hq
    | next => exact False.elim hq
    | brk => exact False.elim hq
    | cont => exact False.elim hq
theorem pe_call (F : FnOk X.prog X.w X.K X.mg X.base CX k f fd ps sp) (hr : Room k X.A) (hg : Gl X x) (hm : X.mg x = some (.ref f)) (hk : PySem.W.keepIn X.K (.ref f) = true) (hb : Binds X.K fd ps ds) (hd : Vals dvs ds) (hx : Passes CX X E)
    (ha : PA X (e :: es) t) (hdb : (x == ("__debug__" : Str)) = false := by decide) (he : starEach (e :: es) X.env = (false, eval e X.env) :: starEach es X.env := by rfl) (hpl : (backTo pos (starEach es X.env)).any (·.1) = false := by rfl) :
    PE X (.Call (.Name x p) (e :: es) [] pos) (tCall sp dvs E t) := by
  intro pins s σ H Q I h
  refine wpAny_Call_Name_kw (ld_glob I hg hm ?_ hdb)
  refine PySem.W.callWith_K (h₀ := X.base) I.ok.mod.kin hk (thn (ha pos pins s σ H _ I h) fun us s1 ⟨vs, H1, I1, r, q⟩ => ⟨I1.kIn, ?_⟩) he hpl
  exact run_fn F hr hb hd hx I1 r q
theorem pe_meth {pl : Sem Bool} (he : PE X o ta) (c : Cls X.K C) (hm : Meth X.K C m f) (F : FnOk X.prog X.w X.K X.mg X.base CX k f fd ps sp) (hr : Room k X.A) (hb : Binds X.K fd ps ds) (hd : Vals dvs ds) (hx : Passes CX X E) (ha : PA X (e :: es) t)
    (hst : starEach (e :: es) X.env = (false, eval e X.env) :: starEach es X.env := by rfl) (hpl : (backTo pos (starEach es X.env)).any (·.1) = false := by rfl)
    (ht : eval (.Call (.Attribute o m apos) (e :: es) [] pos) X.env = (do
      let ov ← eval o X.env
      standAt apos.atName
      let (f, first) ← holding [ov] (getMethod ov m pl)
      callWith pos f first (backTo pos (starEach (e :: es) X.env)) (backToKw pos (keywordEach [] X.env))) := by rfl) :
    PE X (.Call (.Attribute o m apos) (e :: es) [] pos) (tMeth C m sp dvs E ta t) := by
  intro pins s σ H Q I h
  refine PySem.W.methodCall_KW (pl := pl) (thn (he pins s σ H _ I h) fun u s1 ⟨x, H1, I1, rx, a, dx, fs, ex, ea, l, q⟩ => ?_) ht
  subst ex
  obtain rfl : u = Value.ref a := rx
  refine getmeth_ok I1 ea c hm l ?_
  refine PySem.W.callWith_K (first := [.ref a]) (h₀ := X.base) I.ok.mod.kin hm.kp (thn (ha pos pins s1 σ H1 _ I1 q) fun us s2 ⟨vs, H2, I2, r, q2⟩ => ⟨I2.kIn, ?_⟩) hst hpl
  exact run_fn (us := .ref a :: us) (vs := .ref a :: vs) F hr hb hd hx I2 (.cons rfl r) q2
structure Mk (K : PySem.W.Frag) (C f : Addr) : Prop where
  makes : PySem.W.makesIn K C = true
  init : PySem.W.findIn K (.ref C) "__init__" = some (some (.ref f))
  fn : PySem.W.isFn K (.ref f) = true
  kp : PySem.W.keepIn K (.ref C) = true
theorem run_make {pins : List (Addr × Obj)} {σ : St} {H : Hp} {s : Shared} {Q : VK} {us : List Value} {vs : List V} (M : Mk X.K C f) (F : FnOk X.prog X.w X.K X.mg X.base CX k f fd ps sp) (hr : Room (k + 1) X.A) (hb : Binds X.K fd ps ds) (hd : Vals dvs ds)
    (hx : Passes CX X E) (I : Inv X pins σ H s) (r : Vals vs us)
    (h : ∀ x dx, H x = none → H dx = none → dx ≠ x → sp (.ref x :: (vs ++ dvs)) (upd (upd H dx (.own x)) x (.ins C dx [])) (fun v H2 => v = .non ∧ Q (.ref x) H2) E) :
    wpAny (model X.prog X.w) X.A (call (.ref C) us) (EP X pins σ Q) X.xe s := by
  have hq := h (s.heap.objs.size + 1) s.heap.objs.size (I.hok.fresh (Nat.le_succ _)) (I.hok.fresh (Nat.le_refl _)) (Nat.ne_of_lt (Nat.lt_succ_self _))
  have I2 := Inv.made (C := C) I
  have r2 : Vals (V.ref (s.heap.objs.size + 1) :: (vs ++ dvs)) (Value.ref (s.heap.objs.size + 1) :: (us ++ ds)) := .cons rfl (r.append hd)
  have hl : (Value.ref (s.heap.objs.size + 1) :: us ++ ds).length = ps.length := by
    have e := r2.length
    rw [F.len _ _ _ _ hq] at e
    exact e.symm
  refine wpAny_call (make_map (f := f) I.kIn M.makes M.init (beq_iff_eq.mp M.fn) (codeAny_mono (F.run _ X.stack _ _ ⟨Value.ref (s.heap.objs.size + 1) :: us, []⟩ (Value.ref (s.heap.objs.size + 1) :: (us ++ ds)) _ _ E (hr.make C us [])
    (I2.env0.make C us []) (hb _ (Value.ref (s.heap.objs.size + 1) :: us) I2.kIn hl) r2 hq) fun r s' hq' => ?_))
  cases r with
  | error e => exact hx pins σ _ _ e s' I2 hq'
  | ok fl =>
    cases fl with
    | ret u =>
      obtain ⟨v, H', I3, rv, ev, q3⟩ := I2.after hq'
      subst ev
      exact ⟨rv, ⟨V.ref (s.heap.objs.size + 1), H', I3, rfl, q3⟩⟩
    | next => exact False.elim hq'
    | brk => exact False.elim hq'
    | cont => exact False.elim hq'
theorem pe_make (M : Mk X.K C f) (F : FnOk X.prog X.w X.K X.mg X.base CX k f fd ps sp) (hr : Room (k + 1) X.A) (hg : Gl X x) (hm : X.mg x = some (.ref C)) (hb : Binds X.K fd ps ds) (hd : Vals dvs ds) (hx : Passes CX X E)
    (ha : PA X (e :: es) t) (hdb : (x == ("__debug__" : Str)) = false := by decide) (he : starEach (e :: es) X.env = (false, eval e X.env) :: starEach es X.env := by rfl) (hpl : (backTo pos (starEach es X.env)).any (·.1) = false := by rfl) :
    PE X (.Call (.Name x p) (e :: es) [] pos) (tMake C sp dvs E t) := by
  intro pins s σ H Q I h
  refine wpAny_Call_Name_kw (ld_glob I hg hm ?_ hdb)
  refine PySem.W.callWith_K (h₀ := X.base) I.ok.mod.kin M.kp (thn (ha pos pins s σ H _ I h) fun us s1 ⟨vs, H1, I1, r, q⟩ => ⟨I1.kIn, ?_⟩) he hpl
  exact run_make M F hr hb hd hx I1 r q
end
section
variable {X : Cx} {CX : CXT} {k : Nat} {f C : Addr} {fd : FuncData} {ps ks : List Str} {sp : Sp} {E : XK} {x m : Str} {p pos apos kpos : Pos} {e o : Expr} {es : List Expr} {kws : List Keyword} {te ta : TE} {t tk : TA} {nm : Option Str}
variable {g : List Value → List Value → List Value} {gV : List V → List V → List V}
end
structure FnScope (N P : List Str) (sc : Scope) : Prop where
  kind : sc.kind = .function
  co : sc.isCoroutine = false
  gen : sc.isGenerator = false
  nd : N.Nodup
  pre : N.take P.length = P
  par : ∀ x ∈ P, sc.names.lookup x = some .local ∨ sc.names.lookup x = some .cell
  nofree : ∀ y ∈ sc.names, y.2 ≠ .free
theorem bindL_out {kindOf : Str → Option NameKind} {x : Str} : ∀ {binds : List (Str × Value)} {m : Str → Option Value}, (∀ v, (x, v) ∉ binds) → bindL kindOf binds m x = m x
  | [], _, _ => rfl
  | (n, v) :: r, m, h => by
    unfold bindL
    rw [bindL_out fun w hw => h w (List.mem_cons_of_mem _ hw)]
    split
    · have : x ≠ n := by rintro rfl; exact h v List.mem_cons_self
      simp [this]
    · rfl
theorem bindC_out {kindOf : Str → Option NameKind} {x : Str} : ∀ {binds : List (Str × Value)} {m : Str → Option Value}, (∀ v, (x, v) ∉ binds) → bindC kindOf binds m x = m x
  | [], _, _ => rfl
  | (n, v) :: r, m, h => by
    unfold bindC
    rw [bindC_out fun w hw => h w (List.mem_cons_of_mem _ hw)]
    split
    · rfl
    · have : x ≠ n := by rintro rfl; exact h v List.mem_cons_self
      simp [this]
theorem bindL_get {kindOf : Str → Option NameKind} {x : Str} {v : Value} : ∀ {P : List Str} {vs : List Value} {i : Nat} {m : Str → Option Value}, P.Nodup → P[i]? = some x → vs[i]? = some v → kindOf x = some .local →
    bindL kindOf (P.zip vs) m x = some v
  | [], _, _, _, _, h, _, _ => by simp at h
  | _ :: _, [], _, _, _, _, h, _ => by simp at h
  | p :: P, w :: vs, 0, m, nd, h1, h2, hk => by
    simp at h1 h2; subst h1; subst h2
    show bindL kindOf ((p, w) :: P.zip vs) m p = _
    unfold bindL
    rw [bindL_out fun v hv => (List.nodup_cons.mp nd).1 (List.of_mem_zip hv).1, if_pos hk]
    simp
  | p :: P, w :: vs, i + 1, m, nd, h1, h2, hk => by
    show bindL kindOf ((p, w) :: P.zip vs) m x = _
    unfold bindL
    exact bindL_get (i := i) (List.nodup_cons.mp nd).2 (by simpa using h1) (by simpa using h2) hk
theorem bindC_get {kindOf : Str → Option NameKind} {x : Str} {v : Value} : ∀ {P : List Str} {vs : List Value} {i : Nat} {m : Str → Option Value}, P.Nodup → P[i]? = some x → vs[i]? = some v → kindOf x ≠ some .local →
    bindC kindOf (P.zip vs) m x = some v
  | [], _, _, _, _, h, _, _ => by simp at h
  | _ :: _, [], _, _, _, _, h, _ => by simp at h
  | p :: P, w :: vs, 0, m, nd, h1, h2, hk => by
    simp at h1 h2; subst h1; subst h2
    show bindC kindOf ((p, w) :: P.zip vs) m p = _
    unfold bindC
    rw [bindC_out fun v hv => (List.nodup_cons.mp nd).1 (List.of_mem_zip hv).1, if_neg hk]
    simp
  | p :: P, w :: vs, i + 1, m, nd, h1, h2, hk => by
    show bindC kindOf ((p, w) :: P.zip vs) m x = _
    unfold bindC
    exact bindC_get (i := i) (List.nodup_cons.mp nd).2 (by simpa using h1) (by simpa using h2) hk
def start (N : List Str) (vs : List V) : St := vs.map some ++ List.replicate (N.length - vs.length) none
def cxOf (CX : CXT) (P : Program) (w : World) (K : PySem.W.Frag) (mg : Str → Option Value) (base : Heap) (N : List Str) (qual : Str) (scope : Scope) (f : Addr) (cd : Value) (A : Around) (outer : List Env) (s : Shared) (H : Hp) (E : XK) : Cx where
  prog := P
  w := w
  K := K
  mg := mg
  base := base
  A := A.deeper (envOfC qual scope s.heap.objs.size f cd)
  N := N
  s_0 := s
  H_0 := H
  env := envOfC qual scope s.heap.objs.size f cd
  outer := outer
  stack := envOfC qual scope s.heap.objs.size f cd :: outer
  ex := []
  calm := true
  fn := fun _ => true
  pn := []
  xe := fun e s' => wpAny (model P w) (A.deeper (envOfC qual scope s.heap.objs.size f cd)) (leaving (envOfC qual scope s.heap.objs.size f cd) e) (fun _ s'' => CX outer H s E e s'') (fun e' s'' => CX outer H s E e' s'') s'
theorem cell_has {sc : Scope} {n : Nat} {x : Str} (h : sc.names.lookup x = some .cell) : ∃ c, (cellsFrom n sc.names []).lookup x = some c := by
  have q := PySem.W.cellsFrom_some sc.names n [] (.inl h)
  exact Option.isSome_iff_exists.mp q
theorem inv_start {CX : CXT} {P : Program} {w : World} {K : PySem.W.Frag} {mg : Str → Option Value} {base : Heap} {N ps : List Str} {qual : Str} {scope : Scope} {f : Addr} {cd : Value} {A : Around} {outer : List Env} {s s1 : Shared} {H : Hp} {E : XK} {us : List Value} {vs : List V}
    (S : FnScope N ps scope) (hd : A.handled = none) (e0 : Env0 P w K mg base A outer s H) (hl : vs.length = ps.length) (r : Vals vs us)
    (x : InCallC s s.heap.objs.size (bindL (envOfC qual scope s.heap.objs.size f cd).kindOf (ps.zip us) fun _ => none) (cellsFrom (s.heap.objs.size + 1) scope.names []) (bindC (envOfC qual scope s.heap.objs.size f cd).kindOf (ps.zip us) fun _ => none) s1) :
    Inv (cxOf CX P w K mg base N qual scope f cd A outer s H E) [] (start N vs) H s1 := by
  have hpl : ps.length ≤ N.length := by have := congrArg List.length S.pre; rw [List.length_take] at this; omega
  obtain ⟨h1, tk, rfl, hk⟩ := x.done
  have noA : ∀ b : Addr, b ∉ (cxOf CX P w K mg base N qual scope f cd A outer s H E).ex := fun b z => absurd (show b ∈ ([] : List Addr) from z) (by simp)
  refine ⟨⟨e0.mod, S.kind, rfl, rfl, Nat.le_refl _, fun y z c h1 h2 => ?_, fun y hy => ?_, fun y c _ h => ?_, fun _ => hd, Around.frames_deeper e0.frames, .inr ⟨rfl, rfl⟩, fun b z => absurd z (noA b), e0.bs, e0.bsz, fun b _ _ => noA b, fun b z => absurd z (noA b), e0.funs, e0.frf⟩,
    rfl, e0.bare, Un.kept hk, ⟨_, x.toInCall.ns, fun i y v h1 h2 h3 => ?_⟩, fun y c h => ⟨_, x.cell y c h⟩, e0.hok.fresh (Nat.le_refl _), fun y c h => ?_, fun p hp => absurd (show p ∈ ([] : List (Addr × Obj)) from hp) (by simp), e0.hok.kept hk, ?_⟩
  · exact name_of_addr x.apart (PySem.mem_of_lookup h1) (PySem.mem_of_lookup h2)
  · have hy : scope.names.lookup y = some .cell ∨ scope.names.lookup y = some .free := hy
    rcases hy with hy | hy
    · exact cell_has hy
    · exact absurd rfl (S.nofree _ (PySem.mem_of_lookup hy))
  · exact Nat.le_of_lt (x.above y c (PySem.mem_of_lookup h))
  · have hi : i < vs.length := by
      unfold start at h2
      by_cases hi : i < vs.length
      · exact hi
      · rw [List.getElem?_append_right (by simpa using hi)] at h2
        rw [List.getElem?_replicate] at h2
        split at h2 <;> cases h2
    have ha : vs[i]? = some v := by
      unfold start at h2
      rw [List.getElem?_append_left (by simpa using hi), List.getElem?_map] at h2
      cases e : vs[i]? with
      | none => rw [e] at h2; cases h2
      | some a => rw [e] at h2; cases h2; rfl
    obtain ⟨u, hu, rv⟩ := r.get ha
    have hp : ps[i]? = some y := by
      rw [← S.pre, List.getElem?_take_of_lt (by omega)]; exact h1
    have ndP : ps.Nodup := by rw [← S.pre]; exact S.nd.sublist (List.take_sublist _ _)
    refine ⟨u, rv, ?_⟩
    rcases S.par y (List.mem_of_getElem? hp) with k | k
    · exact .inl ⟨k, bindL_get ndP hp hu k⟩
    · obtain ⟨c, e⟩ := cell_has (n := s.heap.objs.size + 1) k
      refine .inr ⟨.inl k, c, e, ?_⟩
      have q := x.cell y c e
      rw [bindC_get ndP hp hu (by show scope.names.lookup y ≠ _; rw [k]; decide)] at q
      exact q
  · exact e0.hok.fresh (Nat.le_of_lt (x.above y c (PySem.mem_of_lookup h)))
  · unfold start
    show _ = N.length
    rw [List.length_append, List.length_map, List.length_replicate]
    omega
theorem fn_of {CX : CXT} {P : Program} {w : World} {K : PySem.W.Frag} {mg : Str → Option Value} {base : Heap} {k : Nat} {f : Addr} {name qual : Str} {params : Arguments} {body : List Stmt} {scope : Scope} {dV kV doc pm cdv ct oc : Value} {an od : Option Addr}
    {osl : Array (Option Value)} {N ps : List Str} {sp : Sp} (lk : K.lookup f = some ⟨oc, od, .func (PySem.W.fnOf name qual params body scope dV kV doc pm an cdv ct), osl⟩) (hcd : PySem.W.codeIn K cdv qual = true) (S : FnScope N ps scope)
    (len : ∀ vs H Q E, sp vs H Q E → vs.length = ps.length)
    (hbody : ∀ (A : Around) (outer : List Env) (s : Shared) (H : Hp) (vs : List V) (Q : VK) (E : XK), Room k (A.deeper (envOfC qual scope s.heap.objs.size f cdv)) → sp vs H Q E →
      ∃ t, PSs (cxOf CX P w K mg base N qual scope f cdv A outer s H E) body t ∧ t { nx := fun _ H' => Q .non H', rt := Q } (start N vs) H) :
    FnOk P w K mg base CX (k + 1) f (PySem.W.fnOf name qual params body scope dV kV doc pm an cdv ct) ps sp := by
  refine ⟨len, fun A outer s H args us vs Q E hr e0 hb r hsp => ?_⟩
  have hl := len _ _ _ _ hsp
  have KX : K.In s.heap := e0.mod.kin.keeps fun b o e => (e0.bs b o e).1
  have lim : s.heap.NoLimit := e0.mod.nolimit.keeps fun b o e => (e0.bs b o e).1
  have hkind : ∀ y ∈ ps.zip us, scope.names.lookup y.1 = some .local ∨ (scope.names.lookup y.1 = some .cell ∧ ((cellsFrom (s.heap.objs.size + 1) scope.names []).lookup y.1).isSome = true) := fun ⟨n, v⟩ hy => by
    rcases S.par n (List.of_mem_zip hy).1 with q | q
    · exact .inl q
    · exact .inr ⟨q, PySem.W.cellsFrom_some _ _ _ (.inl q)⟩
  refine codeAny_call_function hr.depth (KX _ _ lk) rfl S.co S.gen rfl (PySem.W.codeRec_of KX hcd) (hb _ _ _ _ ?_)
  refine wpAny_newFunctionEnv_cells S.kind hkind fun env he s1 x => ?_
  subst he
  refine ⟨lim.keeps x.toInCall.keep, codeAny_func ?_⟩
  obtain ⟨t, ht, hq⟩ := hbody A outer s H vs Q E (hr.deeper _) hsp
  have I : Inv (cxOf CX P w K mg base N qual scope f cdv A outer s H E) [] (start N vs) H s1 := inv_start S hr.hd e0 hl r x
  refine wpAny_mono (ht [] s1 (start N vs) H _ I hq) (fun fl s' hs => ?_) fun e s' hs => hs
  have fin : ∀ {σ' : St} {H' : Hp} {v : V} {u : Value}, Inv (cxOf CX P w K mg base N qual scope f cdv A outer s H E) [] σ' H' s' → RelV v u → Q v H' → CE outer P w H s Q u s' :=
    fun {σ' H' v u} J rv q => ⟨v, H', J.os, J.bare, J.base, J.hok, rv, q⟩
  cases fl with
  | ret u =>
    obtain ⟨v, σ', H', J, rv, q⟩ := hs
    exact fin J rv q
  | next =>
    obtain ⟨σ', H', J, q⟩ := hs
    exact fin (v := V.non) (u := Value.none) J rfl q
  | brk =>
    obtain ⟨_, _, _, q⟩ := hs
    exact False.elim q
  | cont =>
    obtain ⟨_, _, _, q⟩ := hs
    exact False.elim q
end L2
namespace L2
open PySem PySem.Spec PyProof.Rows
section
variable {X : Cx} {x : Str} {p pos : Pos} {e : Expr} {es : List Expr} {t : TA} {id T : String} {r : List V → Hp → VK → Prop}
def tCB (r : List V → Hp → VK → Prop) (t : TA) : TE := fun σ H Q => t σ H fun vs H1 => r vs H1 Q
theorem pe_callB (hc : CallR X (.builtin id) r) (hg : Gl X x) (hm : X.mg x = none) (hv : bootBuiltins x = some (.builtin id)) (ha : PA X (e :: es) t) (hn : x ≠ "__name__" := by decide) (hdb : (x == ("__debug__" : Str)) = false := by decide)
    (he : starEach (e :: es) X.env = (false, eval e X.env) :: starEach es X.env := by rfl) (hpl : (backTo pos (starEach es X.env)).any (·.1) = false := by rfl) : PE X (.Call (.Name x p) (e :: es) [] pos) (tCB r t) := by
  intro pins s σ H Q I h
  refine wpAny_Call_Name_kw (ld_blt I hg hm hv ?_ hn hdb)
  exact PyProof.Rows.callWith_builtin1 (thn (ha pos pins s σ H _ I h) fun us s1 ⟨vs, H1, I1, r1, q1⟩ => hc pins s1 σ H1 vs us Q I1 r1 q1) he hpl
theorem pe_callTy (hc : CallR X (.type T) r) (hg : Gl X x) (hm : X.mg x = none) (hv : bootBuiltins x = some (.type T)) (ha : PA X (e :: es) t) (hn : x ≠ "__name__" := by decide) (hdb : (x == ("__debug__" : Str)) = false := by decide)
    (he : starEach (e :: es) X.env = (false, eval e X.env) :: starEach es X.env := by rfl) (hpl : (backTo pos (starEach es X.env)).any (·.1) = false := by rfl) : PE X (.Call (.Name x p) (e :: es) [] pos) (tCB r t) := by
  intro pins s σ H Q I h
  refine wpAny_Call_Name_kw (ld_blt I hg hm hv ?_ hn hdb)
  exact PyProof.Rows.callWith_type1 (thn (ha pos pins s σ H _ I h) fun us s1 ⟨vs, H1, I1, r1, q1⟩ => hc pins s1 σ H1 vs us Q I1 r1 q1) he hpl
end
end L2
namespace HT
open PySem PyProof.Rows
section
open PySem.SeqAt
open PySem.AutoSeq1 (wpAny_loadPart')
open PySem.MeetsSeq PySem.MeetsSeq2 PySem.MeetsSeq3
end
section
variable {prog : Program} {w : World} {A : Around} {E : Value → Shared → Prop} {s : Shared}
def sIx (n d : Nat) : Option Int → Nat
  | none => d
  | some v => if v < 0 then (v + (n : Int)).toNat else min v.toNat n
end
end HT
namespace L2
open PySem PySem.Spec PyProof.Rows
abbrev TO := St → Hp → (Option Int → Hp → Prop) → Prop
def PO (X : Cx) (e : Option Expr) (t : TO) : Prop :=
  ∀ (pins : List (Addr × Obj)) (s : Shared) (σ : St) (H : Hp) (Q : Option Int → Hp → Prop), Inv X pins σ H s → t σ H Q →
    wpAny (model X.prog X.w) X.A (evalPart e X.env) (fun u s' => ∃ o H', Inv X pins σ H' s' ∧ IsPart u o ∧ Q o H') X.xe s
def tNoPart : TO := fun _ H Q => Q none H
def tPart (t : TE) : TO := fun σ H Q => t σ H fun x H1 => ∃ i, x = .int i ∧ Q (some i) H1
section
variable {X : Cx} {e : Expr} {te : TE} {lo hi : Option Expr} {tl th : TO} {pos p2 : Pos}
theorem po_none : PO X none tNoPart := by
  intro pins s σ H Q I h
  rw [evalPart_none]
  exact wpAny_pure ⟨none, H, I, .none, h⟩
theorem po_some (h : PE X e te) : PO X (some e) (tPart te) := by
  intro pins s σ H Q I hw
  rw [evalPart_some]
  refine thn (h pins s σ H _ I hw) fun u s1 ⟨x, H1, I1, r1, q1⟩ => ?_
  obtain ⟨i, rfl, q⟩ := q1
  obtain ⟨t, rfl⟩ := r1
  exact ⟨some i, H1, I1, .int i t, q⟩
def SlR (X : Cx) (r : V → Option Int → Option Int → Hp → VK → Prop) : Prop :=
  ∀ (pins : List (Addr × Obj)) (s : Shared) (σ : St) (H : Hp) (x : V) (v vl vu : Value) (lo hi : Option Int) (sl : Addr) (Q : VK), Inv X pins σ H s → RelV x v → s.heap.IsSliceOf sl vl vu .none → IsPart vl lo → IsPart vu hi → r x lo hi H Q →
    ∃ T id, typeLookup (.type T) "__getitem__" = pure (some (.builtin id)) ∧ s.TypeIs v T ∧ wpAny (model X.prog X.w) X.A (getItem v (.ref sl)) (EP X pins σ Q) X.xe s
def tSl (r : V → Option Int → Option Int → Hp → VK → Prop) (te : TE) (tl th : TO) : TE := fun σ H Q => te σ H fun x H1 => tl σ H1 fun l H2 => th σ H2 fun u H3 => r x l u H3 Q
theorem pe_slice {r : V → Option Int → Option Int → Hp → VK → Prop} (hr : SlR X r) (he : PE X e te) (hl : PO X lo tl) (hu : PO X hi th) : PE X (.Subscript e (.Slice lo hi none p2) pos) (tSl r te tl th) := by
  intro pins s σ H Q I h
  refine Subscript_ (thn (he pins s σ H _ I h) fun v s1 ⟨x, H1, I1, r1, q1⟩ => ?_)
  refine wpAny_Slice (thn (hl pins s1 σ H1 _ I1 q1) fun vl s2 ⟨l, H2, I2, pl, q2⟩ => thn (hu pins s2 σ H2 _ I2 q2) fun vu s3 ⟨u, H3, I3, pu, q3⟩ => ?_)
  rw [evalPart_none]
  refine wpAny_pure ?_
  have I4 : Inv X pins σ H3 { s3 with heap := s3.heap.push { cls := .type "slice", data := .fields #[vl, vu, .none] } } := I3.kept (t' := s3.toks) fun b ob q => Heap.get?_push_of_some _ q
  obtain ⟨T, id, hT, ht, hg⟩ := hr pins { s3 with heap := s3.heap.push { cls := .type "slice", data := .fields #[vl, vu, .none] } } σ H3 x v vl vu l u s3.heap.objs.size Q I4 r1 (Heap.IsSliceOf.new ..) pl pu q3
  show wpAny (model X.prog X.w) X.A (subscriptTail e (.Slice lo hi none p2) v (.ref s3.heap.objs.size)) (EP X pins σ Q) X.xe { s3 with heap := s3.heap.push { cls := .type "slice", data := .fields #[vl, vu, .none] } }
  exact tail_any (ops := [.ref s3.heap.objs.size, v]) ht hT hg (by with_unfolding_all rfl)
def cutV (xs : List V) (lo hi : Option Int) : List V := (xs.drop (HT.sIx xs.length 0 lo)).take (HT.sIx xs.length xs.length hi - HT.sIx xs.length 0 lo)
theorem cutV_length (xs : List V) (lo hi : Option Int) : (cutV xs lo hi).length ≤ xs.length := by
  unfold cutV
  rw [List.length_take, List.length_drop]
  omega
end
end L2
namespace L2
open PySem PySem.Spec PyProof.Rows
def ixN (n : Nat) (i : Int) : Option Nat := if 0 ≤ i then (if i < n then some i.toNat else none) else if -(n : Int) ≤ i then some (i + n).toNat else none
def atI {α : Type} (xs : List α) (i : Int) : Option α := (ixN xs.length i).bind fun j => xs[j]?
theorem ixN_seq {n : Nat} {i : Int} {j : Nat} (h : ixN n i = some j) : seqIndex? i n = some j ∧ j < n ∧ -(n : Int) ≤ i ∧ i < n := by
  unfold ixN at h
  by_cases h0 : 0 ≤ i
  · rw [if_pos h0] at h
    by_cases h1 : i < n
    · rw [if_pos h1] at h
      have e : i.toNat = j := Option.some.inj h
      exact ⟨by rw [seqIndex_of h0 h1, e], by omega, by omega, h1⟩
    · rw [if_neg h1] at h; cases h
  · rw [if_neg h0] at h
    by_cases h1 : -(n : Int) ≤ i
    · rw [if_pos h1] at h
      have e : (i + n).toNat = j := Option.some.inj h
      exact ⟨by rw [seqIndex_neg (by omega) h1, e], by omega, h1, by omega⟩
    · rw [if_neg h1] at h; cases h
theorem atI_get {α : Type} {xs : List α} {i : Int} {v : α} (h : atI xs i = some v) : ∃ j, seqIndex? i xs.length = some j ∧ xs[j]? = some v ∧ j < xs.length ∧ -(xs.length : Int) ≤ i ∧ i < xs.length := by
  unfold atI at h
  cases e : ixN xs.length i with
  | none => rw [e] at h; cases h
  | some j =>
    rw [e] at h
    obtain ⟨h1, h2, h3, h4⟩ := ixN_seq e
    exact ⟨j, h1, h, h2, h3, h4⟩
theorem atI_nat {α : Type} {xs : List α} {j : Nat} {v : α} (h : xs[j]? = some v) : atI xs (j : Int) = some v := by
  have hj : j < xs.length := (List.getElem?_eq_some_iff.mp h).1
  have e : ixN xs.length (j : Int) = some j := by
    unfold ixN
    rw [if_pos (by omega), if_pos (by omega)]; simp
  unfold atI; rw [e]; exact h
def PlainIx (b : Expr) : Prop := ∀ o i, subscripted b false o i = operate [o, i] (getItem o i)
def IxR (X : Cx) (r : R2) : Prop :=
  ∀ (value slice : Expr) (pins : List (Addr × Obj)) (s : Shared) (σ : St) (H : Hp) (x y : V) (v u : Value) (Q : VK), Inv X pins σ H s → RelV x v → RelV y u → r x y H Q →
    subscripted slice false v u = operate [v, u] (getItem v u) → wpAny (model X.prog X.w) X.A (subscriptTail value slice v u) (EP X pins σ Q) X.xe s
def MtR (X : Cx) (id : String) (r : V → List V → Hp → VK → Prop) : Prop :=
  ∀ (pins : List (Addr × Obj)) (s : Shared) (σ : St) (H : Hp) (x : V) (xs : List V) (v : Value) (us : List Value) (Q : VK), Inv X pins σ H s → RelV x v → Vals xs us → r x xs H Q →
    wpAny (model X.prog X.w) X.A (call (.builtin id) (v :: us)) (EP X pins σ Q) X.xe s
section
variable {X : Cx} {a b : Expr} {ta tb : TE} {pos : Pos}
theorem pe_ix {r : R2} (hr : IxR X r) (ha : PE X a ta) (hb : PE X b tb) (hs : PlainIx b) : PE X (.Subscript a b pos) (tOp r ta tb) := by
  intro pins s σ H Q I h
  exact Subscript_ (binT ha hb I h fun v u s2 x y H2 I2 rx ry q => hr a b pins s2 σ H2 x y v u Q I2 rx ry q (hs _ _))
def rIxL (K : PySem.W.Frag) : R2 := fun x y H Q => ∃ p xs i v, x = .ref p ∧ y = .int i ∧ SqL K H p xs ∧ atI xs i = some v ∧ Q v H
def rIxT (K : PySem.W.Frag) : R2 := fun x y H Q => ∃ p xs i v, x = .ref p ∧ y = .int i ∧ SqT K H p xs ∧ atI xs i = some v ∧ Q v H
theorem ix_list : IxR X (rIxL X.K) := by
  intro value slice pins s σ H x y v u Q I rx ry h hs
  obtain ⟨p, xs, i, z, rfl, rfl, hq, he, q⟩ := h
  cases rx
  obtain ⟨t, rfl⟩ := ry
  obtain ⟨its, r, pl, hz⟩ := I.list hq
  obtain ⟨j, h1, h2, h3, h4, h5⟩ := atI_get he
  obtain ⟨w, ew, rw'⟩ := r.get h2
  have hl := r.length
  have hn := line63
  have fin : EP X pins σ Q w s := ⟨z, H, I, rw', q⟩
  by_cases h0 : 0 ≤ i
  · have hj : i.toNat = j := by
      rw [seqIndex_of h0 h5] at h1
      exact Option.some.inj h1
    exact item_listR pl.isList h0 (by omega) (by rw [hj]; simpa using ew) fin hs
  · have hj : (i + (its.toArray.size : Int)).toNat = j := by
      rw [seqIndex_neg (by omega) h4] at h1
      rw [List.size_toArray, ← hl]
      exact Option.some.inj h1
    exact subscriptTail_builtinR (x := w) pl.isList.typeIs slot_list_getitem.lookup
      (wpAny_getItem_list_neg (Q := fun r s' => r = w ∧ EP X pins σ Q r s') pl.isList (by omega) (by rw [List.size_toArray] <;> omega) (by omega) (by rw [hj]; simpa using ew) ⟨rfl, fin⟩) hs
theorem ix_tup : IxR X (rIxT X.K) := by
  intro value slice pins s σ H x y v u Q I rx ry h hs
  obtain ⟨p, xs, i, z, rfl, rfl, hq, he, q⟩ := h
  cases rx
  obtain ⟨t, rfl⟩ := ry
  obtain ⟨its, r, pl, hz⟩ := I.tuple hq
  obtain ⟨j, h1, h2, h3, h4, h5⟩ := atI_get he
  obtain ⟨w, ew, rw'⟩ := r.get h2
  have hl := r.length
  have hn := line63
  have fin : EP X pins σ Q w s := ⟨z, H, I, rw', q⟩
  exact subscriptTail_builtinR (x := w) pl.typeIs slot_tuple_getitem.lookup
    (getItem_tuple (j := j) (Q := fun r s' => r = w ∧ EP X pins σ Q r s') pl (by omega) (by omega) (by rw [List.size_toArray, ← hl]; exact h1) (by simpa using ew) ⟨rfl, fin⟩) hs
theorem slice_bounds (lo hi : Option Int) (n : Nat) : (sliceBounds lo hi none n).1 = ((HT.sIx n 0 lo : Nat) : Int) ∧ (sliceBounds lo hi none n).2.1 = ((HT.sIx n n hi : Nat) : Int) ∧ (sliceBounds lo hi none n).2.2 = 1 := by
  refine ⟨?_, ?_, rfl⟩
  · cases lo with
    | none => simp [sliceBounds, HT.sIx]
    | some i =>
      simp only [sliceBounds, HT.sIx, Option.getD_none, show (1 : Int) > 0 by decide, if_true]
      by_cases h : i < 0
      · simp only [h, if_true] <;> omega
      · simp only [h, if_false] <;> omega
  · cases hi with
    | none => simp [sliceBounds, HT.sIx]
    | some i =>
      simp only [sliceBounds, HT.sIx, Option.getD_none, show (1 : Int) > 0 by decide, if_true]
      by_cases h : i < 0
      · simp only [h, if_true] <;> omega
      · simp only [h, if_false] <;> omega
theorem slicePick_cut (its : List Value) (lo hi : Option Int) : slicePick its.toArray lo hi none = ((its.drop (HT.sIx its.length 0 lo)).take (HT.sIx its.length its.length hi - HT.sIx its.length 0 lo)).toArray := by
  obtain ⟨h1, h2, h3⟩ := slice_bounds lo hi its.toArray.size
  unfold slicePick
  rw [h1, h2, h3]
  simp only [sliceRange_one, pick_run, List.size_toArray] <;> rfl
def rSlL (K : PySem.W.Frag) : V → Option Int → Option Int → Hp → VK → Prop := fun x lo hi H Q => ∃ a xs, x = .ref a ∧ SqL K H a xs ∧ ∀ p, H p = none → Q (.ref p) (upd H p (.lst (cutV xs lo hi)))
theorem sl_list : SlR X (rSlL X.K) := by
  intro pins s σ H x v vl vu lo hi sl Q I rx hs pl pu h
  obtain ⟨a, xs, rfl, hx, q⟩ := h
  cases rx
  obtain ⟨its, r, ht, hz⟩ := I.list hx
  have hlen := r.length
  refine ⟨"list", _, slot_list_getitem.lookup, ht.isList.typeIs, ?_⟩
  refine wpAny_getItem_list_slice ht.isList hs pl pu .none (by simp) ?_ (by rw [List.size_toArray] <;> omega)
  rw [slicePick_cut, ← hlen]
  refine ⟨.ref s.heap.objs.size, _, I.laid (t' := s.toks) (o := .lst (cutV xs lo hi)) (fun b ob q => Heap.get?_push_of_some _ q) (Nat.le_refl _) ?_, rfl, q _ (I.hok.fresh (Nat.le_refl _))⟩
  exact ⟨Nat.le_trans (cutV_length xs lo hi) hz, _, 0, (r.drop (HT.sIx xs.length 0 lo)).take (HT.sIx xs.length xs.length hi - HT.sIx xs.length 0 lo), Heap.get?_push_size _ rfl⟩
theorem call_len_seq : CallR X (.builtin "len") (fun xs H Q => ∃ p ys, xs = [.ref p] ∧ (SqL X.K H p ys ∨ SqT X.K H p ys) ∧ Q (.int ys.length) H) := by
  intro pins s σ H xs us Q I r h
  obtain ⟨p, ys, rfl, hq, q⟩ := h
  obtain ⟨u, rfl, rx⟩ := vals1 r
  cases rx
  have hn := line63
  rcases hq with hq | hq
  · obtain ⟨its, r', pl, hz⟩ := I.list hq
    have hlen := r'.length
    exact Calls.call_len_list pl.isList (by simp only [List.size_toArray] <;> omega) ⟨.int ys.length, H, I.tok _, ⟨s.toks + 1, by rw [List.size_toArray, hlen]⟩, q⟩
  · obtain ⟨its, r', pl, hz⟩ := I.tuple hq
    have hlen := r'.length
    exact len_tuple pl (by simp only [List.size_toArray] <;> omega) ⟨.int ys.length, H, I.tok _, ⟨s.toks + 1, by rw [List.size_toArray, hlen]⟩, q⟩
theorem call_list_of : CallR X (.type "list") (fun xs H Q => ∃ p ys, xs = [.ref p] ∧ (SqL X.K H p ys ∨ SqT X.K H p ys) ∧ ∀ l, H l = none → Q (.ref l) (upd H l (.lst ys))) := by
  intro pins s σ H xs us Q I r h
  obtain ⟨p, ys, rfl, hq, q⟩ := h
  obtain ⟨u, rfl, rx⟩ := vals1 r
  cases rx
  have fin : ∀ (its : List Value), Vals ys its → ys.length ≤ sizeLine → ∀ (h' : Heap) (c' : Nat), (∀ b o', s.heap.get? b = some o' → h'.get? b = some o') →
      h'.get? s.heap.objs.size = some { cls := .type "list", dict := none, data := .seq its.toArray c', slots := #[] } → EP X pins σ Q (.ref s.heap.objs.size) { s with heap := h' } := fun its r' hz h' c' kp e =>
    ⟨.ref s.heap.objs.size, _, I.laid (t' := s.toks) kp (Nat.le_refl _) (show ObjOk X.prog X.w _ h' _ (.lst ys) from ⟨hz, its, c', r', e⟩), rfl, q _ (I.hok.fresh (Nat.le_refl _))⟩
  rcases hq with hq | hq
  · obtain ⟨its, r', pl, hz⟩ := I.list hq
    have hlen := r'.length
    obtain ⟨o, ho, hc, n, hd⟩ := pl.isList
    exact call_list_seq p (.inl rfl) ho hc hd (fun h' c' kp e => fin its r' hz h' c' kp e) (by simp only [List.size_toArray] <;> omega)
  · obtain ⟨its, r', pl, hz⟩ := I.tuple hq
    have hlen := r'.length
    obtain ⟨o, ho, hc, n, hd⟩ := pl
    exact call_list_seq p (.inr rfl) ho hc hd (fun h' c' kp e => fin its r' hz h' c' kp e) (by simp only [List.size_toArray] <;> omega)
def tyV (K : PySem.W.Frag) (T : String) (x : V) (H : Hp) : Prop := match x with
  | .str _ => T = "str"
  | .int _ => T = "int"
  | .ref p => (T = "list" ∧ ∃ xs, SqL K H p xs) ∨ (T = "tuple" ∧ ∃ o, K.lookup p = some o ∧ o.cls = .type "tuple" ∧ o.dict = none) ∨
      (T = "dict" ∧ ((∃ kvs, H p = some (.dK kvs)) ∨ ∃ kvs, H p = some (.dT kvs))) ∨ (T = "set" ∧ ∃ S n, H p = some (.set S n))
  | _ => False
theorem tyV_is {pins : List (Addr × Obj)} {σ : St} {H : Hp} {s : Shared} {T : String} {x : V} {v : Value} (I : Inv X pins σ H s) (r : RelV x v) (ty : tyV X.K T x H) :
    s.TypeIs v T ∧ ∀ a, v = .ref a → ∃ ob, s.heap.get? a = some ob ∧ ob.dict = none := by
  cases x with
  | str z =>
    obtain ⟨t, rfl⟩ := r
    cases (show T = "str" from ty)
    exact ⟨typeIs_str s z t, fun _ e => nomatch e⟩
  | int i =>
    obtain ⟨t, rfl⟩ := r
    cases (show T = "int" from ty)
    exact ⟨typeIs_int s i t, fun _ e => nomatch e⟩
  | ref p =>
    cases r
    rcases ty with ⟨rfl, xs, hq⟩ | ⟨rfl, o, hk, hc, hd⟩ | ⟨rfl, hk⟩ | ⟨rfl, S, n, hk⟩
    · obtain ⟨its, _, pl, _⟩ := I.list hq
      refine ⟨pl.isList.typeIs, fun a e => ?_⟩
      cases e
      obtain ⟨o, n, e, c, hd, _⟩ := pl
      exact ⟨o, e, hd⟩
    · refine ⟨⟨o, I.kIn p o hk, hc⟩, fun a e => ?_⟩
      cases e
      exact ⟨o, I.kIn _ o hk, hd⟩
    · have z : ∃ o, s.heap.get? p = some o ∧ o.ExactDict := by
        rcases hk with ⟨kvs, hk⟩ | ⟨kvs, hk⟩
        · obtain ⟨_, _, _, _, o, _, _, e, ex, _⟩ := I.hok p _ hk
          exact ⟨o, e, ex⟩
        · obtain ⟨_, _, _, _, o, _, _, e, ex, _⟩ := I.hok p _ hk
          exact ⟨o, e, ex⟩
      obtain ⟨o, e, ex⟩ := z
      refine ⟨⟨o, e, ex.1⟩, fun a e2 => ?_⟩
      cases e2
      exact ⟨o, e, ex.2.1⟩
    · obtain ⟨o, _, _, _, e, ex, _⟩ := I.hok p _ hk
      refine ⟨⟨o, e, ex.1⟩, fun a e2 => ?_⟩
      cases e2
      exact ⟨o, e, ex.2.1⟩
  | _ => exact False.elim ty
def tBM (K : PySem.W.Frag) (T : String) (r : V → List V → Hp → VK → Prop) (to : TE) (t : TA) : TE := fun σ H Q => to σ H fun x H1 => tyV K T x H1 ∧ t σ H1 fun xs H2 => r x xs H2 Q
variable {o e : Expr} {es : List Expr} {to : TE} {t : TA} {name : Str} {apos cpos : Pos} {T id : String} {r : V → List V → Hp → VK → Prop}
theorem pe_bm (pa : PlainAttrs T) (slot : Slot T name id) (hty : typeOf (.builtin id) = pure (.type "method_descriptor")) (hm : MtR X id r) (ho : PE X o to) (ha : PA X (e :: es) t)
    (hbase : attributeBase o name X.env (eval o X.env) = eval o X.env := by rfl)
    (hfew : ((backTo cpos (starEach (e :: es) X.env)).all (fun x => !x.1) && (backToKw cpos (keywordEach [] X.env)).all (fun x => x.1.isSome)
      && decide ((e :: es).length + ([] : List Keyword).length + (if ([] : List Keyword).isEmpty then 0 else 1) < 30)) = true := by rfl)
    (hline : (apos.endLine == cpos.line) = true := by rfl) (hs : starEach (e :: es) X.env = (false, eval e X.env) :: starEach es X.env := by rfl) (hplain : (backTo cpos (starEach es X.env)).any (·.1) = false := by rfl) :
    PE X (.Call (.Attribute o name apos) (e :: es) [] cpos) (tBM X.K T r to t) := by
  intro pins s σ H Q I h
  refine wpAny_Call_method_late hbase hfew hline rfl (thn (ho pins s σ H _ I h) fun v s1 ⟨x, H1, I1, r1, ty, q1⟩ => ?_)
  obtain ⟨h1, h2⟩ := tyV_is I1 r1 ty
  refine ⟨T, id, pa, slot, hty, h1, h2, ?_⟩
  have hA := ha cpos pins s1 σ H1 _ I1 q1
  rw [hs] at hA ⊢
  refine Calls.callWith_builtin (by show (false || (backTo cpos (starEach es X.env)).any (·.1)) = false; rw [hplain] <;> rfl) (Calls.evalArgs_plain ?_)
  exact thn hA fun us s2 ⟨vs, H2, I2, r2, q2⟩ => hm pins s2 σ H2 x vs v us Q I2 r1 r2 q2
end
end L2
namespace L2
open PySem PySem.Spec PyProof.Rows
def MtM (X : Cx) (id : String) (r : V → List V → Hp → VK → Prop) : Prop :=
  ∀ (pins : List (Addr × Obj)) (s : Shared) (σ : St) (H : Hp) (x : V) (xs : List V) (v : Value) (us : List Value) (Q : VK), Inv X pins σ H s → RelV x v → Vals xs us → r x xs H Q →
    wpAny (model X.prog X.w) X.A (call (.builtin id) (v :: us)) (EP X pins σ Q) X.xe s
theorem Vals.one : ∀ {x : V} {us : List Value}, Vals [x] us → ∃ u, us = [u] ∧ RelV x u
  | _, _, .cons r .nil => ⟨_, rfl, r⟩
section
variable {X : Cx} {pins : List (Addr × Obj)} {σ : St} {H : Hp} {s : Shared} {l b : Addr} {xs ys zs : List V}
theorem Inv.lset {its its' : List Value} {n : Nat} {f : Array Value → Array Value} {t' : Nat} (I : Inv X pins σ H s) (hH : H l = some (.lst xs))
    (e : s.heap.get? l = some { cls := .type "list", data := .seq its.toArray n }) (hf : f its.toArray = its'.toArray) (hv : Vals ys its') (hz : ys.length ≤ sizeLine) :
    Inv X pins σ (upd H l (.lst ys)) { s with heap := s.heap.update l (Obj.mapSeq f), toks := t' } := by
  have q := PySem.IsL.update e f
  rw [hf] at q
  refine I.write (x := l) (e := l) (by rw [hH]; exact trivial) (.inl rfl) (fun b' u hb hu => (Heap.get?_update_other s.heap (Obj.mapSeq f) (Ne.symm hb)).trans hu) ⟨_, q⟩ ?_
  exact ⟨hz, its', _, hv, q⟩
theorem Inv.lnew {its : List Value} {t' : Nat} (I : Inv X pins σ H s) (hv : Vals ys its) (hz : ys.length ≤ sizeLine) :
    Inv X pins σ (upd H s.heap.objs.size (.lst ys)) { s with heap := s.heap.push { cls := .type "list", data := .seq its.toArray }, toks := t' } :=
  I.laid (fun _ _ q => Heap.get?_push_of_some _ q) (Nat.le_refl _) ⟨hz, its, 0, hv, Heap.get?_push_size _ rfl⟩
theorem Inv.fresh (I : Inv X pins σ H s) : H s.heap.objs.size = none := I.hok.fresh (Nat.le_refl _)
theorem Inv.lstM (I : Inv X pins σ H s) (hH : H l = some (.lst xs)) : xs.length ≤ sizeLine ∧ ∃ (its : List Value) (n : Nat), Vals xs its ∧ xs.length = its.length ∧ s.heap.get? l = some { cls := .type "list", data := .seq its.toArray n } := by
  obtain ⟨z, its, n, r, e⟩ := I.hok l _ hH
  exact ⟨z, its, n, r, r.length, e⟩
theorem notLongL {n : Nat} (h : n ≤ sizeLine) : Builtin.List.listTooLong n = false := by
  unfold Builtin.List.listTooLong
  exact decide_eq_false (by omega)
end
section
variable {X : Cx}
def rAppend : V → List V → Hp → VK → Prop := fun x vs H Q => ∃ l xs y, x = .ref l ∧ vs = [y] ∧ H l = some (.lst xs) ∧ xs.length < sizeLine ∧ Q .non (upd H l (.lst (xs ++ [y])))
theorem mt_append : MtM X "list.append" rAppend := by
  intro pins s σ H x vs v us Q I rx rv h
  obtain ⟨l, xs, y, rfl, rfl, hH, hz, q⟩ := h
  cases rx
  obtain ⟨u, rfl, ru⟩ := rv.one
  obtain ⟨z, its, n, r, hl, e⟩ := I.lstM hH
  refine call_meets F.slot_list_append ⟨_, e, rfl⟩ F.entry_list_append (F.args_list_append_2 _ _) (PySem.list_append l its.toArray n u (by rw [List.size_toArray]; omega)) ⟨e, ?_⟩
  refine ⟨.non, _, I.lset (its' := its ++ [u]) hH e (by simp) (r.append (.cons ru .nil)) ?_, rfl, q⟩
  rw [List.length_append, List.length_singleton]
  omega
def rExtend : V → List V → Hp → VK → Prop := fun x vs H Q => ∃ l b xs zs, x = .ref l ∧ vs = [.ref b] ∧ H l = some (.lst xs) ∧ H b = some (.lst zs) ∧ xs.length + zs.length ≤ sizeLine ∧ Q .non (upd H l (.lst (xs ++ zs)))
theorem mt_extend : MtM X "list.extend" rExtend := by
  intro pins s σ H x vs v us Q I rx rv h
  obtain ⟨l, b, xs, zs, rfl, rfl, hH, hB, hz, q⟩ := h
  cases rx
  obtain ⟨u, rfl, ru⟩ := rv.one
  cases ru
  obtain ⟨z, its, n, r, hl, e⟩ := I.lstM hH
  obtain ⟨z2, its2, n2, r2, hl2, e2⟩ := I.lstM hB
  have hsz : its.toArray.size + its2.toArray.size ≤ sizeLine := by rw [List.size_toArray, List.size_toArray]; omega
  have hlong : ¬ (!its.toArray.isEmpty && Builtin.List.listTooLong (its.toArray.size + its2.toArray.size)) = true := by
    rw [notLongL hsz, Bool.and_false]
    exact Bool.false_ne_true
  refine call_meets F.slot_list_extend ⟨_, e, rfl⟩ F.entry_list_extend (F.args_list_extend_2 _ _)
    (AutoSeq1.list_extend_list_list_0 l its.toArray n b its2.toArray n2 hlong (by rw [List.size_toArray]; omega) (by omega)) ⟨e, e2, ?_⟩
  refine ⟨.non, _, I.lset (its' := its ++ its2) hH e (by simp) (r.append r2) ?_, rfl, q⟩
  rw [List.length_append]
  omega
def rCat : R2 := fun x y H Q => ∃ l b xs zs, x = .ref l ∧ y = .ref b ∧ H l = some (.lst xs) ∧ H b = some (.lst zs) ∧ xs.length + zs.length ≤ sizeLine ∧ ∀ p, H p = none → Q (.ref p) (upd H p (.lst (xs ++ zs)))
theorem op_cat : OpR X (binaryOp .Add) rCat := by
  intro pins s σ H x y v u Q I rx ry h
  obtain ⟨l, b, xs, zs, rfl, rfl, hH, hB, hz, q⟩ := h
  cases rx
  cases ry
  obtain ⟨z, its, n, r, hl, e⟩ := I.lstM hH
  obtain ⟨z2, its2, n2, r2, hl2, e2⟩ := I.lstM hB
  refine PySem.P.add_list e e2 ?_ (by rw [List.size_toArray, List.size_toArray]; omega)
  have ea : its.toArray ++ its2.toArray = (its ++ its2).toArray := by simp
  rw [ea]
  exact ⟨.ref _, _, I.lnew (t' := s.toks) (r.append r2) (by rw [List.length_append]; omega), rfl, q _ I.fresh⟩
end
section
variable {prog : Program} {w : World} {A : Around} {E : Value → Shared → Prop} {s : Shared}
end
section
variable {X : Cx}
end
end L2
namespace L2
open PySem PySem.Spec PyProof.Rows
theorem Vals.bls : ∀ {bs : List Bool} {us : List Value}, Vals (bs.map V.bl) us → us = bs.map Value.bool
  | [], us, h => by
    rw [List.map_nil] at h
    cases h
    rfl
  | b :: bs, us, h => by
    rw [List.map_cons] at h
    cases h with
    | cons r t =>
      cases r
      rw [Vals.bls t, List.map_cons]
theorem Vals.ref1 {a : Addr} {us : List Value} (r : Vals [V.ref a] us) : us = [Value.ref a] := by
  cases r with
  | cons r t =>
    cases t
    cases r
    rfl
section
variable {prog : Program} {w : World} {A : Around} {E : Value → Shared → Prop} {s : Shared} {l : Addr} {its : List Value} {ns : List Int} {Q : Value → Shared → Prop}
end
section
variable {X : Cx}
end
section
variable {X : Cx}
end
section
variable {X : Cx}
end
theorem iter_any {prog : Program} {w : World} {A : Around} {E : Value → Shared → Prop} {s : Shared} {l : Addr} {items : Array Value} {Q : Value → Shared → Prop} (hl : s.heap.IsList l items)
    (h : ∀ s₂ : Shared, s₂ = { s with heap := s.heap.push { cls := .type "list_iterator", data := .fields #[.ref l, .int 0 0] } } →
      (s₂.heap.IsListIter s.heap.objs.size l 0 ∧ s₂.heap.IsList l items) → l ≠ s.heap.objs.size → Q (.ref s.heap.objs.size) s₂) : wpAny (model prog w) A (pyIter (.ref l)) Q E s := by
  have hlt : l < s.heap.objs.size := by obtain ⟨_, e, _⟩ := hl; exact Heap.lt_size e
  exact wpAny_pyIter_list hl (h _ rfl ⟨⟨_, Heap.get?_push_size _ rfl, rfl, rfl⟩, hl.push _⟩ (Nat.ne_of_lt hlt))
theorem truth_bools {prog : Program} {w : World} {A : Around} {bs : List Bool} {its : List Value} (e : its = bs.map Value.bool) :
    TruthOf prog w A (fun i v => its.toArray[i]? = some v) (fun i => bs.getD i false) := fun i v s Q E hv hq => by
  have hv' : its[i]? = some v := by simpa using hv
  rw [e, List.getElem?_map] at hv'
  obtain ⟨b, hb, rfl⟩ := Option.map_eq_some_iff.mp hv'
  have hg : bs.getD i false = b := by rw [List.getD_eq_getElem?_getD, hb] <;> rfl
  have hq' : Q (bs.getD i false) s := hq
  rw [hg] at hq'
  exact wpAny_truthy_bool hq'
theorem all_range : ∀ bs : List Bool, (List.range bs.length).all (fun i => bs.getD i false) = bs.all id
  | [] => rfl
  | b :: bs => by
    rw [List.length_cons, List.range_succ_eq_map, List.all_cons, List.all_map, List.all_cons, ← all_range bs]
    all_goals rfl
section
variable {X : Cx}
def rAll (K : PySem.W.Frag) : List V → Hp → VK → Prop := fun vs H Q => ∃ (a : Addr) (bs : List Bool), vs = [V.ref a] ∧ SqL K H a (bs.map V.bl) ∧ Q (.bl (bs.all id)) H
theorem cr_all (hc : X.calm = true) : CallR X (.builtin "all") (rAll X.K) := by
  intro pins s σ H vs us Q I r h
  obtain ⟨a, bs, rfl, hs, q⟩ := h
  obtain ⟨its, rv, hl, _⟩ := I.list hs
  rw [Vals.ref1 r]
  have hb := rv.bls
  refine call_all_walk (iter_any hl.isList fun s₂ e2 st hne => ?_)
  subst e2
  refine ⟨_, _, _, _, _, _, _, rfl, Walks.list (A := X.A.in1) (I.ok.hd hc) _ a hne its.toArray, st, truth_bools hb, fun h' tk hk => ?_⟩
  refine ⟨.bl _, H, I.kept fun b o eo => hk b o (fun hmem => ?_) (Heap.get?_push_of_some _ eo), ?_, q⟩
  · rcases List.mem_cons.mp hmem with e1 | hmem
    · exact absurd (e1 ▸ Heap.lt_size eo) (Nat.lt_irrefl _)
    · cases hmem
  · show Value.bool _ = Value.bool _
    rw [← all_range, hb, List.size_toArray, List.length_map]
end
mutual
inductive Dp (K : PySem.W.Frag) (H : Hp) : V → PyData → Prop
  | non : Dp K H .non .none
  | bl (b : Bool) : Dp K H (.bl b) (.bool b)
  | int (i : Int) : Dp K H (.int i) (.int i)
  | str (x : Str) : Dp K H (.str x) (.str x)
  | lst {a : Addr} {xs : List V} {ds : List PyData} : SqL K H a xs → DpAll K H xs ds → Dp K H (.ref a) (.list ds)
  | tup {a : Addr} {xs : List V} {ds : List PyData} : SqT K H a xs → DpAll K H xs ds → Dp K H (.ref a) (.tuple ds)
inductive DpAll (K : PySem.W.Frag) (H : Hp) : List V → List PyData → Prop
  | nil : DpAll K H [] []
  | cons {v : V} {vs : List V} {d : PyData} {ds : List PyData} : Dp K H v d → DpAll K H vs ds → DpAll K H (v :: vs) (d :: ds)
end
section
variable {X : Cx} {pins : List (Addr × Obj)} {σ : St} {H : Hp} {s : Shared}
mutual
theorem Dp.reads (I : Inv X pins σ H s) : ∀ (d : PyData) (v : V) (u : Value), Dp X.K H v d → RelV v u → ∃ as, Reads s.heap u d as
  | .none, _, _, h, r => by
    cases h
    cases r
    exact ⟨_, Reads.none⟩
  | .bool b, _, _, h, r => by
    cases h
    cases r
    exact ⟨_, Reads.bool b⟩
  | .int i, _, _, h, r => by
    cases h
    obtain ⟨t, rfl⟩ := r
    exact ⟨_, Reads.int i t⟩
  | .str x, _, _, h, r => by
    cases h
    obtain ⟨t, rfl⟩ := r
    exact ⟨_, Reads.str x t⟩
  | .list ds, _, _, h, r => by
    cases h with
    | lst hs ha =>
      cases r
      obtain ⟨its, rv, ⟨o, n, ho, hc, _, hd⟩, _⟩ := I.list hs
      obtain ⟨as, hr⟩ := Dp.readsAll I ds _ its ha rv
      exact ⟨_, Reads.list ho hc hd hr⟩
  | .tuple ds, _, _, h, r => by
    cases h with
    | tup hs ha =>
      cases r
      obtain ⟨its, rv, ⟨o, ho, hc, n, hd⟩, _⟩ := I.tuple hs
      obtain ⟨as, hr⟩ := Dp.readsAll I ds _ its ha rv
      exact ⟨_, Reads.tuple ho hc hd hr⟩
  | .dict _, _, _, h, _ => by cases h
theorem Dp.readsAll (I : Inv X pins σ H s) : ∀ (ds : List PyData) (vs : List V) (us : List Value), DpAll X.K H vs ds → Vals vs us → ∃ as, ReadsAll s.heap us ds as
  | [], _, _, h, r => by
    cases h
    cases r
    exact ⟨_, ReadsAll.nil⟩
  | d :: ds, _, _, h, r => by
    cases h with
    | cons h1 h2 =>
      cases r with
      | cons r1 r2 =>
        obtain ⟨as, q1⟩ := Dp.reads I d _ _ h1 r1
        obtain ⟨bs, q2⟩ := Dp.readsAll I ds _ _ h2 r2
        exact ⟨_, ReadsAll.cons q1 q2⟩
end
end
section
variable {X : Cx}
end
end L2
namespace L2
open PySem PySem.Spec PyProof.Rows
abbrev CellAt (h : Heap) (c : Addr) (v : Option Value) : Prop := h.IsCell c v
def relS (scope sc : Scope) : Scope :=
  { scope with names := scope.names.map fun (n, k) => if (k == .free && sc.kind == .function && sc.names.lookup n == some .cell) then (n, .cell) else (n, k) }
def cloFrom (cells : List (Str × Addr)) : List (Str × NameKind) → List (Str × Addr) → List (Str × Addr)
  | [], acc => acc
  | (n, k) :: r, acc => if k == .free then cloFrom cells r ((n, (cells.lookup n).getD 0) :: acc) else cloFrom cells r acc
theorem closure_loop (env : Env) (f : Str × NameKind → List (Str × Addr) → Sem (ForInStep (List (Str × Addr))))
    (hf : ∀ n k c, f (n, k) c = if k == .free then (do let a ← cellOf env n; pure (.yield ((n, a) :: c))) else pure (.yield c)) :
    ∀ (names : List (Str × NameKind)) (acc : List (Str × Addr)), (∀ y ∈ names, y.2 = .free → ∃ c, env.cells.lookup y.1 = some c) → forIn names acc f = pure (cloFrom env.cells names acc)
  | [], acc, _ => by rw [List.forIn_nil]; rfl
  | (n, k) :: r, acc, h => by
    rw [List.forIn_cons, hf]
    have ih := fun acc => closure_loop env f hf r acc fun y hy => h y (List.mem_cons_of_mem _ hy)
    unfold cloFrom
    by_cases hk : (k == NameKind.free) = true
    · rw [if_pos hk, if_pos hk]
      obtain ⟨c, hc⟩ := h (n, k) List.mem_cons_self (by simpa using hk)
      have e : cellOf env n = pure c := by unfold cellOf; rw [hc]
      rw [e]
      have e2 : (env.cells.lookup n).getD 0 = c := by rw [hc]; rfl
      rw [e2]
      exact ih _
    · rw [if_neg hk, if_neg hk]
      exact ih _
theorem closure_ok {scope : Scope} {env : Env} (h : ∀ y ∈ scope.names, y.2 = .free → ∃ c, env.cells.lookup y.1 = some c) : closureFor scope env = pure (cloFrom env.cells scope.names []) := by
  simp only [closureFor]
  rw [closure_loop env _ (fun n k c => rfl) scope.names [] h]
  rfl
theorem mem_lookup {α : Type} : ∀ {l : List (Str × α)} {n : Str} {c : α}, (n, c) ∈ l → ∃ c', l.lookup n = some c'
  | (k, v) :: r, n, c, h => by
    rw [List.lookup_cons]
    cases hb : n == k with
    | true => exact ⟨_, rfl⟩
    | false =>
      rcases List.mem_cons.mp h with e | h
      · cases e; simp at hb
      · exact mem_lookup h
theorem cloFrom_mem {cells : List (Str × Addr)} : ∀ {names : List (Str × NameKind)} {acc : List (Str × Addr)} {n : Str} {c : Addr}, (n, c) ∈ cloFrom cells names acc → (n, c) ∈ acc ∨ ((n, .free) ∈ names ∧ c = (cells.lookup n).getD 0)
  | [], _, _, _, h => .inl h
  | (m, k) :: r, acc, n, c, h => by
    unfold cloFrom at h
    split at h
    · rename_i hk
      have hk : k = .free := by simpa using hk
      rcases cloFrom_mem h with h | ⟨h1, h2⟩
      · rcases List.mem_cons.mp h with e | h
        · cases e; exact .inr ⟨hk ▸ List.mem_cons_self, rfl⟩
        · exact .inl h
      · exact .inr ⟨List.mem_cons_of_mem _ h1, h2⟩
    · rcases cloFrom_mem h with h | ⟨h1, h2⟩
      · exact .inl h
      · exact .inr ⟨List.mem_cons_of_mem _ h1, h2⟩
theorem cloFrom_acc {cells : List (Str × Addr)} : ∀ {names : List (Str × NameKind)} {acc : List (Str × Addr)} {p : Str × Addr}, p ∈ acc → p ∈ cloFrom cells names acc
  | [], _, _, h => h
  | (m, k) :: r, acc, p, h => by
    unfold cloFrom
    split
    · exact cloFrom_acc (List.mem_cons_of_mem _ h)
    · exact cloFrom_acc h
theorem cloFrom_has {cells : List (Str × Addr)} : ∀ {names : List (Str × NameKind)} {acc : List (Str × Addr)} {n : Str}, (n, .free) ∈ names → (n, (cells.lookup n).getD 0) ∈ cloFrom cells names acc
  | (m, k) :: r, acc, n, h => by
    unfold cloFrom
    rcases List.mem_cons.mp h with e | h
    · cases e
      exact cloFrom_acc List.mem_cons_self
    · split
      · exact cloFrom_has h
      · exact cloFrom_has h
theorem cells_mem : ∀ {names : List (Str × NameKind)} {h : Heap} {acc : List (Str × Addr)} {x : Str} {c : Addr}, (x, c) ∈ cellsFrom h.objs.size names acc →
    (x, c) ∈ acc ∨ ((x, .cell) ∈ names ∧ h.objs.size ≤ c ∧ CellAt (pushCells h names) c none)
  | [], _, _, _, _, h => .inl h
  | (n, k) :: r, h, acc, x, c, hm => by
    unfold cellsFrom at hm
    unfold pushCells
    split at hm
    · rename_i hk
      rw [if_pos hk]
      have hk : k = .cell := by simpa using hk
      rw [← Heap.size_push h { cls := .type "cell", data := .cell none }] at hm
      rcases cells_mem hm with hm | ⟨h1, h2, h3⟩
      · rcases List.mem_cons.mp hm with e | hm
        · cases e
          exact .inr ⟨hk ▸ List.mem_cons_self, Nat.le_refl _, _, pushCells_keeps r _ _ _ (Heap.get?_push_size _ rfl), rfl⟩
        · exact .inl hm
      · rw [Heap.size_push] at h2
        exact .inr ⟨List.mem_cons_of_mem _ h1, Nat.le_of_succ_le h2, h3⟩
    · rename_i hk
      rw [if_neg hk]
      rcases cells_mem hm with hm | ⟨h1, h2, h3⟩
      · exact .inl hm
      · exact .inr ⟨List.mem_cons_of_mem _ h1, h2, h3⟩
theorem cells_acc : ∀ {names : List (Str × NameKind)} {n : Nat} {acc : List (Str × Addr)} {p : Str × Addr}, p ∈ acc → p ∈ cellsFrom n names acc
  | [], _, _, _, h => h
  | (m, k) :: r, n, acc, p, h => by
    unfold cellsFrom
    split
    · exact cells_acc (List.mem_cons_of_mem _ h)
    · exact cells_acc h
theorem cells_has : ∀ {names : List (Str × NameKind)} {n : Nat} {acc : List (Str × Addr)} {x : Str}, (x, .cell) ∈ names → ∃ c, (x, c) ∈ cellsFrom n names acc
  | (m, k) :: r, n, acc, x, h => by
    unfold cellsFrom
    rcases List.mem_cons.mp h with e | h
    · cases e
      exact ⟨n, cells_acc List.mem_cons_self⟩
    · split
      · exact cells_has h
      · exact cells_has h
theorem cells_inj : ∀ {names : List (Str × NameKind)} {h : Heap} {acc : List (Str × Addr)} {x y : Str} {c : Addr}, (∀ p ∈ acc, p.2 < h.objs.size) → (∀ x y c, (x, c) ∈ acc → (y, c) ∈ acc → x = y) →
    (x, c) ∈ cellsFrom h.objs.size names acc → (y, c) ∈ cellsFrom h.objs.size names acc → x = y
  | [], _, _, _, _, _, _, hi, h1, h2 => hi _ _ _ h1 h2
  | (n, k) :: r, h, acc, x, y, c, hl, hi, h1, h2 => by
    unfold cellsFrom at h1 h2
    split at h1
    · rename_i hk
      rw [if_pos hk] at h2
      rw [← Heap.size_push h { cls := .type "cell", data := .cell none }] at h1 h2
      refine cells_inj (h := h.push _) (fun p hp => ?_) (fun x y c a b => ?_) h1 h2
      · rw [Heap.size_push]
        rcases List.mem_cons.mp hp with rfl | hp
        · exact Nat.lt_succ_self _
        · exact Nat.lt_succ_of_lt (hl p hp)
      · rcases List.mem_cons.mp a with e | a <;> rcases List.mem_cons.mp b with e' | b
        · cases e; cases e'; rfl
        · cases e; exact absurd (hl _ b) (Nat.lt_irrefl _)
        · cases e'; exact absurd (hl _ a) (Nat.lt_irrefl _)
        · exact hi _ _ _ a b
    · rename_i hk
      rw [if_neg hk] at h2
      exact cells_inj hl hi h1 h2
theorem newEnv_comp {M : Model} {A : Around} {E : Value → Shared → Prop} {s : Shared} {scope : Scope} {globals : Addr} {closure : List (Str × Addr)} {qual : Str} {func : Option Addr} {code : Value} {around : Env} {builtins : Addr} {Q : Env → Shared → Prop}
    (h : Q (newEnv scope s.heap.objs.size globals (cellsFrom (s.heap.objs.size + 1) scope.names closure) qual func code (some around) builtins)
      { s with heap := pushCells (s.heap.push { cls := .type "dict", data := .dict #[] }) scope.names }) :
    wpAny M A (newFunctionEnv scope globals closure [] qual func code (some around) builtins) Q E s := by
  simp only [newFunctionEnv, Option.isSome_some, if_true]
  refine wpAny_bind (wpAny_alloc ?_)
  refine wpAny_bind (wpAny_layCells _ (fun n k c => rfl) scope.names closure _ _ ?_)
  rw [show ({ s with heap := s.heap.push { cls := .type "dict", data := .dict #[] } } : Shared).heap.objs.size = s.heap.objs.size + 1 from Heap.size_push ..]
  rw [List.forIn_nil]
  exact wpAny_bind (wpAny_pure (wpAny_pure h))
theorem lookup_relS {sc : Scope} : ∀ {names : List (Str × NameKind)} {x : Str} {k : NameKind},
    (names.map fun (n, k) => if (k == NameKind.free && sc.kind == .function && sc.names.lookup n == some .cell) then (n, NameKind.cell) else (n, k)).lookup x = some k →
    ∃ k', names.lookup x = some k' ∧ (k = k' ∨ (k' = .free ∧ k = .cell))
  | [], _, _, h => by simp at h
  | (n, k₀) :: r, x, k, h => by
    have ih := @lookup_relS sc r x k
    have h' : List.lookup x ((if (k₀ == NameKind.free && sc.kind == .function && sc.names.lookup n == some .cell) = true then (n, NameKind.cell) else (n, k₀)) :: (r.map _)) = some k := h
    cases hx : x == n with
    | true =>
      simp only [List.lookup_cons, hx]
      by_cases hc : (k₀ == NameKind.free && sc.kind == .function && sc.names.lookup n == some .cell) = true
      · rw [if_pos hc] at h'
        simp only [List.lookup_cons, hx] at h'
        cases h'
        simp only [Bool.and_eq_true, beq_iff_eq] at hc
        exact ⟨k₀, rfl, .inr ⟨hc.1.1, rfl⟩⟩
      · rw [if_neg hc] at h'
        simp only [List.lookup_cons, hx] at h'
        cases h'
        exact ⟨_, rfl, .inl rfl⟩
    | false =>
      simp only [List.lookup_cons, hx]
      by_cases hc : (k₀ == NameKind.free && sc.kind == .function && sc.names.lookup n == some .cell) = true
      · rw [if_pos hc] at h'
        simp only [List.lookup_cons, hx] at h'
        exact ih h'
      · rw [if_neg hc] at h'
        simp only [List.lookup_cons, hx] at h'
        exact ih h'
structure BlkOk (N : List Str) (sc scope : Scope) (own : List (Str × Nat)) : Prop where
  kind : scope.kind = .function
  uniq : ∀ y ∈ scope.names, scope.names.lookup y.1 = some y.2
  ix : ∀ p ∈ own, N[p.2]? = some p.1
  free : ∀ y ∈ scope.names, y.2 = .free → sc.names.lookup y.1 = some .cell ∨ sc.names.lookup y.1 = some .free
  own : ∀ y ∈ scope.names, y.2 = .local ∨ y.2 = .cell → y.1 ∈ own.map (·.1) ∨ y.1 ∉ N
def wipe (σ : St) : List Nat → St
  | [] => σ
  | v :: vs => (wipe σ vs).set v none
theorem wipe_length (σ : St) : ∀ vs : List Nat, (wipe σ vs).length = σ.length
  | [] => rfl
  | v :: vs => by unfold wipe; rw [List.length_set, wipe_length σ vs]
theorem wipe_some {σ : St} {i : Nat} {x : V} : ∀ {vs : List Nat}, (wipe σ vs)[i]? = some (some x) → σ[i]? = some (some x) ∧ i ∉ vs
  | [], h => ⟨h, by simp⟩
  | v :: vs, h => by
    unfold wipe at h
    by_cases hi : v = i
    · subst hi
      by_cases hv : v < (wipe σ vs).length
      · rw [List.getElem?_set_self hv] at h; cases h
      · rw [List.getElem?_eq_none (by simpa using hv)] at h; cases h
    · rw [List.getElem?_set_ne hi] at h
      obtain ⟨h1, h2⟩ := wipe_some h
      exact ⟨h1, by simp only [List.mem_cons, not_or]; exact ⟨fun e => hi e.symm, h2⟩⟩
abbrev Cx.blk (X : Cx) (s : Shared) (H : Hp) (scope : Scope) (cenv : Env) (fp : List Addr) : Cx := { X with s_0 := s, H_0 := H, env := cenv, outer := X.stack, ex := fp, fn := fun x => scope.names.lookup x == some .cell, pn := [], xe := fun _ _ => False }
section
variable {X : Cx} {pins : List (Addr × Obj)} {σ : St} {H : Hp} {s : Shared}
theorem block_start {scope : Scope} {own : List (Str × Nat)} {fp : List Addr} (I : Inv X pins σ H s) (ok : BlkOk X.N X.env.scope scope own) (hN : X.N.Nodup) (hfp : ∀ b ∈ fp, FpOk X pins H b ∧ b < s.heap.objs.size) :
    Inv (X.blk s H scope (compEnvC scope (cellsFrom (s.heap.objs.size + 1) scope.names (cloFrom X.env.cells scope.names [])) s.heap.objs.size X.env) fp) [] (wipe σ (own.map (·.2))) H { s with heap := pushCells (s.heap.push { cls := .type "dict", data := .dict #[] }) scope.names } := by
  have hfree : ∀ y ∈ scope.names, y.2 = .free → ∃ c, X.env.cells.lookup y.1 = some c := fun y hy e => by
    rcases ok.free y hy e with k | k
    · exact I.ok.has _ (.inl k)
    · exact I.ok.has _ (.inr k)
  generalize hcenv : compEnvC scope (cellsFrom (s.heap.objs.size + 1) scope.names (cloFrom X.env.cells scope.names [])) s.heap.objs.size X.env = cenv
  have kp : ∀ b o, s.heap.get? b = some o → (pushCells (s.heap.push { cls := .type "dict", data := .dict #[] }) scope.names).get? b = some o := fun b o e => pushCells_keeps _ _ _ _ (Heap.get?_push_of_some _ e)
  have hL : cenv.locals = s.heap.objs.size := by rw [← hcenv]; rfl
  have hcl : cenv.cells = cellsFrom (s.heap.objs.size + 1) scope.names (cloFrom X.env.cells scope.names []) := by rw [← hcenv]; rfl
  have hsc : cenv.scope = relS scope X.env.scope := by rw [← hcenv]; rfl
  rw [← Heap.size_push s.heap { cls := .type "dict", data := .dict #[] }] at hcl
  have cm : ∀ {y c}, (y, c) ∈ cloFrom X.env.cells scope.names [] → X.env.cells.lookup y = some c ∧ c < s.heap.objs.size := fun {y c} hm => by
    rcases cloFrom_mem hm with hm | ⟨h1, rfl⟩
    · cases hm
    · obtain ⟨c, hc⟩ := hfree _ h1 rfl
      rw [hc]
      obtain ⟨w, z⟩ := I.cell _ _ hc
      exact ⟨rfl, z.lt⟩
  have mem : ∀ {y c}, cenv.cells.lookup y = some c → (X.env.cells.lookup y = some c ∧ c < s.heap.objs.size) ∨ (s.heap.objs.size + 1 ≤ c ∧ CellAt (pushCells (s.heap.push { cls := .type "dict", data := .dict #[] }) scope.names) c none) := fun {y c} e => by
    rw [hcl] at e
    rcases cells_mem (PySem.mem_of_lookup e) with hm | ⟨_, h2, h3⟩
    · exact .inl (cm hm)
    · rw [Heap.size_push] at h2; exact .inr ⟨h2, h3⟩
  have look : ∀ {y}, scope.names.lookup y = some .free → ∃ c, cenv.cells.lookup y = some c ∧ X.env.cells.lookup y = some c := fun {y} hl => by
    have hy : (y, NameKind.free) ∈ scope.names := PySem.mem_of_lookup hl
    obtain ⟨c', e'⟩ := mem_lookup (cells_acc (names := scope.names) (n := (s.heap.push { cls := .type "dict", data := .dict #[] }).objs.size) (cloFrom_has (cells := X.env.cells) (acc := []) hy))
    rw [← hcl] at e'
    refine ⟨c', e', ?_⟩
    rw [hcl] at e'
    rcases cells_mem (PySem.mem_of_lookup e') with hm | ⟨h1, _, _⟩
    · exact (cm hm).1
    · have := ok.uniq _ h1
      rw [hl] at this; cases this
  have okB : (X.blk s H scope cenv fp).Ok := by
    refine ⟨I.ok.mod, by show cenv.scope.kind = _; rw [hsc]; exact ok.kind, by show cenv.globals = _; rw [← hcenv]; exact I.ok.glob, by show cenv.builtins = _; rw [← hcenv]; exact I.ok.blt, by show s.heap.objs.size ≤ cenv.locals; rw [hL]; exact Nat.le_refl _,
      fun y z c e1 e2 => ?_, fun y hy => ?_, fun y c z e => ?_, I.ok.hd, I.ok.frames, .inl rfl, fun b hb => ⟨?_, fun y c e z => ?_⟩, I.bs, Nat.le_trans I.ok.bsz I.sz, fun b o e hb => ?_, fun b hb z => ?_, I.stack, I.stkFree⟩
    · have e1 : cenv.cells.lookup y = some c := e1
      have e2 : cenv.cells.lookup z = some c := e2
      rw [hcl] at e1 e2
      refine cells_inj (fun p hp => ?_) (fun y z c a b => I.ok.inj y z c (cm a).1 (cm b).1) (PySem.mem_of_lookup e1) (PySem.mem_of_lookup e2)
      rw [Heap.size_push]
      exact Nat.lt_succ_of_lt (cm (y := p.1) (c := p.2) hp).2
    · show ∃ c, cenv.cells.lookup y = some c
      have key : ∀ k, cenv.kindOf y = some k → (k = .cell ∨ k = .free) → ∃ c, cenv.cells.lookup y = some c := fun k hk hk' => by
        unfold Env.kindOf at hk
        rw [hsc] at hk
        obtain ⟨k', e, r⟩ := lookup_relS hk
        have : k' = .cell ∨ k' = .free := by
          rcases r with rfl | ⟨rfl, _⟩
          · exact hk'
          · exact .inr rfl
        rcases this with rfl | rfl
        · obtain ⟨c, hm⟩ := cells_has (n := (s.heap.push { cls := .type "dict", data := .dict #[] }).objs.size) (acc := cloFrom X.env.cells scope.names []) (PySem.mem_of_lookup e)
          obtain ⟨c', e'⟩ := mem_lookup hm
          exact ⟨c', by rw [hcl]; exact e'⟩
        · obtain ⟨c, h1, _⟩ := look e
          exact ⟨c, h1⟩
      rcases hy with hy | hy
      · exact key _ hy (.inl rfl)
      · exact key _ hy (.inr rfl)
    · have z : (scope.names.lookup y == some NameKind.cell) = true := z
      have z : scope.names.lookup y = some .cell := by simpa using z
      have e : cenv.cells.lookup y = some c := e
      rw [hcl] at e
      rcases cells_mem (PySem.mem_of_lookup e) with hm | ⟨_, h2, _⟩
      · rcases cloFrom_mem hm with hm | ⟨h1, _⟩
        · cases hm
        · have q := ok.uniq _ h1
          rw [z] at q; cases q
      · rw [Heap.size_push] at h2
        exact Nat.le_of_succ_le h2
    · show b ≠ cenv.locals
      rw [hL]; exact Nat.ne_of_lt (hfp b hb).2
    · have e : cenv.cells.lookup y = some c := e
      rcases mem e with ⟨h1, _⟩ | ⟨h1, _⟩
      · exact (hfp b hb).1.2.2.2.2.1 y c h1 z
      · have h2 : s.heap.objs.size + 1 ≤ b := by rw [← z]; exact h1
        exact absurd (Nat.lt_of_lt_of_le (hfp b hb).2 (Nat.le_of_succ_le h2)) (Nat.lt_irrefl _)
    · rcases (hfp b hb).1.2.2.2.1 with z | z
      · exact I.ok.noex b o e z
      · exact absurd (Nat.lt_of_lt_of_le (Heap.lt_size e) (Nat.le_trans I.ok.bsz z)) (Nat.lt_irrefl _)
    · rcases List.mem_cons.mp (I.stkSub b z) with z | z
      · exact (hfp b hb).1.2.1 z
      · exact (hfp b hb).1.2.2.1 z
  refine ⟨okB, rfl, I.bare, Un.kept kp, ⟨fun _ => none, ?_, fun i y av e1 e2 e3 => ?_⟩, fun y c e => ?_, ?_, fun y c e => ?_, fun p hp => ?_, I.hok.kept kp, by rw [wipe_length]; exact I.len⟩
  · show Heap.Ns _ cenv.locals _
    rw [hL]
    exact Heap.Ns.keeps (Heap.Ns.new ..) fun b o e => pushCells_keeps _ _ _ _ e
  · obtain ⟨e2, hne⟩ := wipe_some e2
    have hfr : scope.names.lookup y = some .free ∧ (cenv.kindOf y = some .cell ∨ cenv.kindOf y = some .free) := by
      have key : ∀ k, cenv.scope.names.lookup y = some k → k = .local ∨ k = .cell ∨ k = .free → scope.names.lookup y = some .free ∧ (cenv.kindOf y = some .cell ∨ cenv.kindOf y = some .free) := fun k hk hk' => by
        have hk0 := hk
        rw [hsc] at hk
        obtain ⟨k', e, r⟩ := lookup_relS hk
        have no : ¬ (k' = .local ∨ k' = .cell) := fun hh => by
          rcases ok.own _ (PySem.mem_of_lookup e) hh with e' | e'
          · obtain ⟨p, hp, hpy⟩ := List.mem_map.mp e'
            have e3 := ok.ix p hp
            have : p.1 = y := hpy
            rw [this] at e3
            exact hne (List.mem_map.mpr ⟨p, hp, nodup_ix hN e3 e1⟩)
          · exact e' (List.mem_of_getElem? e1)
        rcases r with rfl | ⟨rfl, rfl⟩
        · rcases hk' with rfl | rfl | rfl
          · exact absurd (.inl rfl) no
          · exact absurd (.inr rfl) no
          · exact ⟨e, .inr hk0⟩
        · exact ⟨e, .inl hk0⟩
      have e3 : Vis cenv.scope y := e3
      rcases e3 with e3 | e3 | e3
      · exact key _ e3 (.inl rfl)
      · exact key _ e3 (.inr (.inl rfl))
      · exact key _ e3 (.inr (.inr rfl))
    obtain ⟨m, hn, hl⟩ := I.loc
    have hvis : Vis X.env.scope y := (ok.free _ (PySem.mem_of_lookup hfr.1) rfl).elim (fun k => .inr (.inl k)) (fun k => .inr (.inr k))
    obtain ⟨w, r, q⟩ := hl i y av e1 e2 hvis
    refine ⟨w, r, .inr ⟨hfr.2, ?_⟩⟩
    obtain ⟨c, h1, h2⟩ := look hfr.1
    rcases q with ⟨k, _⟩ | ⟨_, c', e', z⟩
    · have k : X.env.scope.names.lookup y = some .local := k
      rcases ok.free _ (PySem.mem_of_lookup hfr.1) rfl with k' | k' <;> rw [show X.env.scope.names.lookup y = _ from k'] at k <;> cases k
    · rw [h2] at e'; cases e'
      exact ⟨c, h1, z.keeps kp⟩
  · have e : cenv.cells.lookup y = some c := e
    rcases mem e with ⟨h1, _⟩ | ⟨_, z⟩
    · obtain ⟨w, z⟩ := I.cell y c h1
      exact ⟨w, z.keeps kp⟩
    · exact ⟨_, z⟩
  · show H cenv.locals = none
    rw [hL]; exact I.hok.fresh (Nat.le_refl _)
  · have e : cenv.cells.lookup y = some c := e
    rcases mem e with ⟨h1, _⟩ | ⟨h1, _⟩
    · exact I.freeC y c h1
    · exact I.hok.fresh (Nat.le_of_succ_le h1)
  · exact absurd (show p ∈ ([] : List (Addr × Obj)) ++ [] from hp) (by simp)
theorem app_ok {E : Value → Shared → Prop} {D : Addr} {xs : List V} {y : V} {v : Value} {Q : Value → Shared → Prop} (I : Inv X pins σ H s) (hD : H D = some (.lst xs)) (hz : xs.length < sizeLine) (r : RelV y v)
    (h : ∀ s', Inv X pins σ (upd H D (.lst (xs ++ [y]))) s' → Q .none s') : wpAny (model X.prog X.w) X.A (call (.builtin "list.append") [.ref D, v]) Q E s := by
  obtain ⟨hz', its, n, ri, e⟩ := I.hok D _ hD
  have hl := ri.length
  refine append_at (hsz := by rw [List.size_toArray]; omega) e fun h' sb ho' => ?_
  refine h { s with heap := h' } (I.write (t' := s.toks) (by rw [hD]; trivial) (.inl rfl) (fun b u hb q => (sb.2 b hb).trans q) ⟨_, ho'⟩ ⟨by rw [List.length_append]; exact hz, its ++ [v], n + 1, ri.append (.cons r .nil), ?_⟩)
  rw [ho']
  simp
def PTs (X : Cx) (ifs : List Expr) (t : TT) : Prop :=
  ∀ (pins : List (Addr × Obj)) (s : Shared) (σ : St) (H : Hp) (Q : Bool → Hp → Prop), Inv X pins σ H s → t σ H Q →
    wpAny (model X.prog X.w) X.A (forIn ifs true fun c r => if r = true then do let ok ← isTrue c X.env (eval c X.env); pure (ForInStep.yield ok) else pure (ForInStep.yield r)) (TP X pins σ Q) X.xe s
def tYes : TT := fun _ H Q => Q true H
theorem pts_nil : PTs X [] tYes := fun _ _ _ H _ I h => wpAny_tests_nil ⟨H, I, h⟩
end
theorem thnF {α : Type} {t : Sem α} {Q Q' : α → Shared → Prop} {M : Model} {A : Around} {E : Value → Shared → Prop} {s : Shared} (h : wpAny M A t Q (fun _ _ => False) s) (hQ : ∀ a s, Q a s → Q' a s) : wpAny M A t Q' E s := wpAny_mono h hQ fun _ _ z => False.elim z
theorem compLoop_any {prog : Program} {w : World} {A : Around} {R : Result → Shared → Prop} {s : Shared} {elt target iter : Expr} {ifs : List Expr} {scope : Scope} {pos : Pos} {it acc : Value} {env : Env} (I : Nat → Shared → Prop)
    (turn : ∀ n s, I n s → wpAny (model prog w) A (pyNext it) (fun r s₁ => match r with
      | none => R (.ok .next) s₁
      | some v => wpAny (model prog w) A (letOwnedTupleGo target it v) (fun _ s₁' => wpAny (model prog w) A (assign target env v) (fun _ s₂ =>
          wpAny (model prog w) A (forIn ifs true fun c r => if r = true then do let ok ← isTrue c env (eval c env); pure (ForInStep.yield ok) else pure (ForInStep.yield r)) (fun ok s₃ =>
            if ok = true then wpAny (model prog w) A (eval elt env) (fun x s₄ =>
              wpAny (model prog w) A (call (.builtin "list.append") [acc, x]) (fun _ s₅ => ∃ m, m < n ∧ I m s₅) (notedBy (model prog w) A env fun e s' => R (.error e) s') s₄) (notedBy (model prog w) A env fun e s' => R (.error e) s') s₃
            else ∃ m, m < n ∧ I m s₃) (notedBy (model prog w) A env fun e s' => R (.error e) s') s₂) (notedBy (model prog w) A env fun e s' => R (.error e) s') s₁') (notedBy (model prog w) A env fun e s' => R (.error e) s') s₁) (notedBy (model prog w) A env fun e s' => R (.error e) s') s)
    (n : Nat) (h : I n s) :
    codeAny (model prog w) A (.compLoop (.ListComp elt [⟨target, iter, ifs, 0⟩] scope pos) 0 it acc env) R s := by
  refine codeAny_loop rfl I (fun n s hI => ?_) n h
  show wpAny _ A ((compTurn (.ListComp elt [⟨target, iter, ifs, 0⟩] scope pos) 0 it acc env).onRaise (fun x => do noteFrame x env; theTreesLotGoes x)) _ _ s
  refine wpAny_noted ?_
  rw [compTurn_list]
  refine wpAny_bind (wpAny_standAt (wpAny_bind (wpAny_mono (turn n s hI) (fun r s₁ h₁ => ?_) fun _ _ h' => h')))
  cases r with
  | none => exact wpAny_pure h₁
  | some v =>
    refine wpAny_bind (wpAny_mono h₁ (fun _ s₁' h₁' => ?_) fun _ _ h' => h')
    refine wpAny_bind (wpAny_mono h₁' (fun _ s₂ h₂ => wpAny_bind (wpAny_mono h₂ (fun ok s₃ h₃ => ?_) fun _ _ h' => h')) fun _ _ h' => h')
    cases ok with
    | false => exact wpAny_pure ⟨rfl, h₃⟩
    | true =>
      exact wpAny_bind (wpAny_bind (wpAny_mono h₃ (fun x s₄ h₄ => wpAny_bind (wpAny_mono h₄ (fun _ s₅ h₅ => wpAny_pure (wpAny_pure ⟨rfl, h₅⟩)) fun _ _ h' => h')) fun _ _ h' => h'))
section
variable {X : Cx}
def tLc (wi : TI) (g : TG) (tt : TT) (te : TE) (vs : List Nat) : TE := fun σ H Q => wi σ H fun J H1 => ∀ D, H1 D = none → ∃ W : Nat → Nat → Hp → Prop, (∃ m, W 0 m (upd H1 D (.lst []))) ∧ ∀ i m H, W i m H →
  (J.stop i H ∧ Q (.ref D) H) ∨ (J.go i H ∧ ∃ Nx : Hp → Prop, (∀ H', Nx H' → ∃ m', m' < m ∧ W (i + 1) m' H') ∧ ∀ x H', J.yld i H x H' → g x (wipe σ vs) H' fun σ2 H2 => wipe σ2 vs = wipe σ vs ∧ tt σ2 H2 fun b H3 =>
    if b = true then te σ2 H3 fun y H4 => ∃ acc, H4 D = some (.lst acc) ∧ acc.length < sizeLine ∧ Nx (upd H4 D (.lst (acc ++ [y]))) else Nx H3)
theorem lc_core {pins : List (Addr × Obj)} {s : Shared} {σ : St} {H : Hp} {Q : VK} {elt tg iter : Expr} {ifs : List Expr} {scope : Scope} {own : List (Str × Nat)} {pos pos' : Pos} {wi : TI} {g : TG} {tt : TT} {te : TE} {use : Option (Value → Sem Unit)} {Qf : Value → Shared → Prop}
    (hc : X.calm = true) (hN : X.N.Nodup) (I : Inv X pins σ H s) (hi : PI X tg iter wi) (ok : BlkOk X.N X.env.scope scope own)
    (hg : ∀ (s : Shared) (H : Hp) (C : Addr) (cl : List (Str × Addr)) (fp : List Addr), PG (X.blk s H scope (compEnvC scope cl C X.env) fp) tg g) (ht : ∀ (s : Shared) (H : Hp) (C : Addr) (cl : List (Str × Addr)) (fp : List Addr), PTs (X.blk s H scope (compEnvC scope cl C X.env) fp) ifs tt)
    (he : ∀ (s : Shared) (H : Hp) (C : Addr) (cl : List (Str × Addr)) (fp : List Addr), PE (X.blk s H scope (compEnvC scope cl C X.env) fp) elt te) (hs : ∀ x, foldedSetIterable iter X.env x = pure x)
    (h : tLc wi g tt te (own.map (·.2)) σ H Q)
    (hRR : ∀ D C s' m H', Inv X pins σ H' s' → Q (.ref D) H' → s'.heap.Ns C m → FpOk X pins H' C → compPost (model X.prog X.w) X.A X.xe use Qf (.ref D) C (.ok .next) s') :
    wpAny (model X.prog X.w) X.A (comprehension (.ListComp elt [⟨tg, iter, ifs, 0⟩] scope pos) scope X.env pos' (newList []) false (eval iter X.env) use) Qf X.xe s := by
  have hfree : ∀ y ∈ scope.names, y.2 = .free → ∃ c, X.env.cells.lookup y.1 = some c := fun y hy e => by
    rcases ok.free y hy e with k | k
    · exact I.ok.has _ (.inl k)
    · exact I.ok.has _ (.inr k)
  refine wpAny_comprehension_free (use := use) rfl hs (closure_ok hfree) ok.kind (fun y hy e => by rw [ok.uniq y hy, e])
    (thn (hi pins s σ H _ I h) fun xv s1 hx => thn hx fun itv s2 h2 => ?_)
  obtain ⟨it, fp, tn, J, H2, e, I2, T, st2, f2, q⟩ := h2
  subst e
  refine wpAny_newObj_type (newEnv_comp ?_) (by show 0 ≤ sizeLine; decide)
  generalize hD : s2.heap.objs.size = D
  have hDn : H2 D = none := I2.hok.fresh (Nat.le_of_eq hD)
  obtain ⟨W, ⟨m0, w0⟩, turn⟩ := q D hDn
  generalize hs3 : ({ s2 with heap := s2.heap.push { cls := .type "list", data := .seq ([] : List Value).toArray } } : Shared) = s3
  have I3 : Inv X pins σ (upd H2 D (.lst [])) s3 := by
    rw [← hs3]
    refine I2.laid (t' := s2.toks) (fun b o e => Heap.get?_push_of_some _ e) (Nat.le_of_eq hD) ⟨Nat.zero_le _, [], 0, .nil, ?_⟩
    rw [← hD]
    exact Heap.get?_push_size _ rfl
  have h3 : s3.heap = s2.heap.push { cls := .type "list", data := .seq ([] : List Value).toArray } := by rw [← hs3]
  have sz : ∀ b ∈ fp, b < s2.heap.objs.size := fun b hb => by
    obtain ⟨o, e, _⟩ := T.obj _ _ st2 b hb
    exact Heap.lt_size e
  have f3 : ∀ b ∈ fp, FpOk X pins (upd H2 D (.lst [])) b ∧ b < s3.heap.objs.size := fun b hb => by
    have hlt := sz b hb
    refine ⟨⟨?_, (f2 b hb).2⟩, by rw [h3, Heap.size_push]; exact Nat.lt_succ_of_lt hlt⟩
    rw [upd_ne (by rw [← hD]; exact Nat.ne_of_lt hlt)]
    exact (f2 b hb).1
  have st3 : tn 0 s3.heap := T.keep _ _ _ st2 fun b _ o e => by rw [h3]; exact Heap.get?_push_of_some _ e
  have I4 := block_start I3 ok hN f3
  have pg := hg s3 (upd H2 D (.lst [])) s3.heap.objs.size (cellsFrom (s3.heap.objs.size + 1) scope.names (cloFrom X.env.cells scope.names [])) fp
  have pt := ht s3 (upd H2 D (.lst [])) s3.heap.objs.size (cellsFrom (s3.heap.objs.size + 1) scope.names (cloFrom X.env.cells scope.names [])) fp
  have pe := he s3 (upd H2 D (.lst [])) s3.heap.objs.size (cellsFrom (s3.heap.objs.size + 1) scope.names (cloFrom X.env.cells scope.names [])) fp
  show codeAny _ _ (.compStart (.ListComp elt [⟨tg, iter, ifs, 0⟩] scope pos) 0 (.ref it) (.ref D) (compEnvC scope (cellsFrom (s3.heap.objs.size + 1) scope.names (cloFrom X.env.cells scope.names [])) s3.heap.objs.size X.env)) (compPost (model X.prog X.w) X.A X.xe use Qf (.ref D) s3.heap.objs.size) { s3 with heap := pushCells (s3.heap.push { cls := .type "dict", data := .dict #[] }) scope.names }
  have nfp : ∀ b ∈ fp, (upd H2 D (.lst [])) b = none := fun b hb => (f3 b hb).1.1
  generalize hce : compEnvC scope (cellsFrom (s3.heap.objs.size + 1) scope.names (cloFrom X.env.cells scope.names [])) s3.heap.objs.size X.env = ce at I4 pg pt pe ⊢
  have cL : ce.locals = s3.heap.objs.size := by subst hce; rfl
  generalize hH3 : upd H2 D (.lst []) = H3 at I3 I4 pg pt pe w0 nfp f3
  generalize hs4 : ({ s3 with heap := pushCells (s3.heap.push { cls := .type "dict", data := .dict #[] }) scope.names } : Shared) = s4 at I4 ⊢
  have st4 : tn 0 s4.heap := T.keep _ _ _ st3 fun b _ o e => by rw [← hs4]; exact pushCells_keeps _ _ _ _ (Heap.get?_push_of_some _ e)
  have stat : ∀ {σ' : St} {H' : Hp} {s' : Shared}, Inv (X.blk s3 H3 scope ce fp) [] σ' H' s' → (∀ b ∈ fp, H' b = none) → ∀ b ∈ fp, FpOk (X.blk s3 H3 scope ce fp) [] H' b := fun {σ' H' s'} I' hn b hb =>
    ⟨hn b hb, (I'.ok.exf b hb).1, I'.ok.exfs b hb, .inl hb, fun x c e => (I'.ok.exf b hb).2 x c e, fun p hp => absurd (show p ∈ ([] : List (Addr × Obj)) ++ [] from hp) (by simp)⟩
  have loop : codeAny (model X.prog X.w) X.A (.compLoop (.ListComp elt [⟨tg, iter, ifs, 0⟩] scope pos) 0 (.ref it) (.ref D) ce) (compPost (model X.prog X.w) X.A X.xe use Qf (.ref D) s3.heap.objs.size) s4 := by
    refine compLoop_any (fun n s' => ∃ i H', Inv (X.blk s3 H3 scope ce fp) [] (wipe σ (own.map (·.2))) H' s' ∧ tn i s'.heap ∧ (∀ b ∈ fp, H' b = none) ∧ W i n H') ?_ m0 ⟨0, H3, I4, st4, nfp, w0⟩
    rintro n s5 ⟨i, H5, I5, st5, n5, w5⟩
    rcases turn i n H5 w5 with ⟨stop, qq⟩ | ⟨go, Nx, hNx, step⟩
    · have td := T.done (X.blk s3 H3 scope ce fp) rfl rfl rfl hc i [] s5 _ H5 (fun _ _ => False) I5 (stat I5 n5) st5 stop
      refine thnF td fun r s6 ⟨hr, I6⟩ => ?_
      subst hr
      have I7 : Inv X pins σ H5 s6 := I3.call' (ch := fp) I6.os I6.base I6.hok I6.bare fun b hb => ⟨(f3 b hb).1.2.2.2.1, (f3 b hb).1.2.1, (f3 b hb).1.2.2.2.2.1, (f3 b hb).1.2.2.2.2.2⟩
      have nC : H5 s3.heap.objs.size = none := by
        have z : H5 ce.locals = none := I6.free
        rw [cL] at z
        exact z
      obtain ⟨m, hn, _⟩ := I6.loc
      have hn : s6.heap.Ns ce.locals m := hn
      rw [cL] at hn
      exact hRR D s3.heap.objs.size s6 m H5 I7 qq hn (I3.fpOk (Nat.le_refl _) nC)
    · have ti := T.item (X.blk s3 H3 scope ce fp) rfl rfl rfl hc i [] s5 _ H5 (fun _ _ => False) I5 (stat I5 n5) st5 go
      refine thnF ti fun r s6 ⟨u, hr, h6⟩ => ?_
      subst hr
      refine thnF h6 fun _ s7 ⟨x, H7, I7, r7, y7, st7, n7⟩ => ?_
      have I7' := I7.pinned (stat I7 n7) (T.obj _ _ st7)
      refine thnF (pg _ s7 _ H7 x u _ I7' r7 (step x H7 y7)) fun _ s8 ⟨σ8, H8, I8, hw8, q8⟩ => ?_
      refine thnF (pt _ s8 σ8 H8 _ I8 q8) fun b s9 ⟨H9, I9, q9⟩ => ?_
      have fin : ∀ {s' : Shared} {H' : Hp}, Inv (X.blk s3 H3 scope ce fp) ([] ++ pinsAt fp s7.heap) σ8 H' s' → Nx H' → ∃ m, m < n ∧ ∃ i H', Inv (X.blk s3 H3 scope ce fp) [] (wipe σ (own.map (·.2))) H' s' ∧ tn i s'.heap ∧ (∀ b ∈ fp, H' b = none) ∧ W i m H' := fun {s' H'} I' nx => by
        obtain ⟨m', hm, w'⟩ := hNx H' nx
        have pin' : ∀ b ∈ fp, ∀ o, s7.heap.get? b = some o → s'.heap.get? b = some o ∧ H' b = none := fun b hb o e =>
          let z := I'.pin (b, o) (List.mem_append_right _ (List.mem_append_right _ (mem_pinsAt hb e)))
          ⟨z.1, z.2.1⟩
        have hl : (wipe σ (own.map (·.2))).length = σ8.length := by rw [← hw8, wipe_length]
        refine ⟨m', hm, i + 1, H', (I'.unpinned (pins := [])).weak hl (fun j v e => ?_), T.keep _ _ _ st7 fun b hb o e => (pin' b hb o e).1, fun b hb => ?_, w'⟩
        · rw [← hw8] at e
          exact (wipe_some e).1
        · obtain ⟨o, e, _⟩ := T.obj _ _ st7 b hb
          exact (pin' b hb o e).2
      cases b with
      | false =>
        simp only [Bool.false_eq_true, if_false] at q9 ⊢
        exact fin I9 q9
      | true =>
        simp only [if_true] at q9 ⊢
        refine thnF (pe _ s9 σ8 H9 _ I9 q9) fun z s10 ⟨yv, H10, I10, r10, acc, hD10, hz10, nx⟩ => ?_
        exact app_ok (X := X.blk s3 H3 scope ce fp) I10 hD10 hz10 r10 fun s11 I11 => fin I11 nx
  exact codeAny_compStart_list loop (T.self X.A 0 _ _ _ st4 loop)
theorem pe_lc {elt tg iter : Expr} {ifs : List Expr} {scope : Scope} {own : List (Str × Nat)} {pos : Pos} {wi : TI} {g : TG} {tt : TT} {te : TE} (hc : X.calm = true) (hN : X.N.Nodup) (hi : PI X tg iter wi) (ok : BlkOk X.N X.env.scope scope own)
    (hg : ∀ (s : Shared) (H : Hp) (C : Addr) (cl : List (Str × Addr)) (fp : List Addr), PG (X.blk s H scope (compEnvC scope cl C X.env) fp) tg g) (ht : ∀ (s : Shared) (H : Hp) (C : Addr) (cl : List (Str × Addr)) (fp : List Addr), PTs (X.blk s H scope (compEnvC scope cl C X.env) fp) ifs tt)
    (he : ∀ (s : Shared) (H : Hp) (C : Addr) (cl : List (Str × Addr)) (fp : List Addr), PE (X.blk s H scope (compEnvC scope cl C X.env) fp) elt te) (hs : ∀ x, foldedSetIterable iter X.env x = pure x := by intro _; rfl) :
    PE X (.ListComp elt [⟨tg, iter, ifs, 0⟩] scope pos) (tLc wi g tt te (own.map (·.2))) := by
  intro pins s σ H Q I h
  rw [eval_ListComp]
  refine lc_core hc hN I hi ok hg ht he hs h fun D C s' m H' I' q hn f => ⟨m, hn, fun h'' sb => ?_⟩
  obtain ⟨f0, f1, f2, f3, f4, f5⟩ := f
  exact ⟨.ref D, H', I'.turned (t' := s'.toks) (fun b o hb e => (sb.2 b hb).trans e) f0 f1 f3 f4 f5, rfl, q⟩
theorem ps_setLc {i : Nat} {y : Str} {py : Pos} {elt tg iter : Expr} {ifs : List Expr} {scope : Scope} {own : List (Str × Nat)} {pos spos : Pos} {wi : TI} {g : TG} {tt : TT} {te : TE} (hc : X.calm = true) (hN : X.N.Nodup) (hy : X.N[i]? = some y) (hyl : X.env.scope.names.lookup y = some .local)
    (hsw : swapsWith (.ListComp elt [⟨tg, iter, ifs, 0⟩] scope pos) (some (.Name y py)) spos.line X.env = pure true) (hi : PI X tg iter wi) (ok : BlkOk X.N X.env.scope scope own)
    (hg : ∀ (s : Shared) (H : Hp) (C : Addr) (cl : List (Str × Addr)) (fp : List Addr), PG (X.blk s H scope (compEnvC scope cl C X.env) fp) tg g) (ht : ∀ (s : Shared) (H : Hp) (C : Addr) (cl : List (Str × Addr)) (fp : List Addr), PTs (X.blk s H scope (compEnvC scope cl C X.env) fp) ifs tt)
    (he : ∀ (s : Shared) (H : Hp) (C : Addr) (cl : List (Str × Addr)) (fp : List Addr), PE (X.blk s H scope (compEnvC scope cl C X.env) fp) elt te) (hs : ∀ x, foldedSetIterable iter X.env x = pure x := by intro _; rfl) :
    PS X (.Assign [.Name y py] (.ListComp elt [⟨tg, iter, ifs, 0⟩] scope pos) spos) (tAsg (tLc wi g tt te (own.map (·.2))) (gName i)) := by
  intro pins s σ H D I h
  rw [exec_Assign_Name_used _ _ _ _ hsw]
  refine wpAny_bind (wpAny_standAt (wpAny_bind ?_))
  show wpAny _ X.A (do let _ ← comprehension (.ListComp elt [⟨tg, iter, ifs, 0⟩] scope pos) scope X.env (firstIterPos [⟨tg, iter, ifs, 0⟩] pos) (newList []) false (eval iter X.env) (some (assign (.Name y py) X.env))) _ _ s
  have h : tLc wi g tt te (own.map (·.2)) σ H (fun x H1 => gName i x σ H1 D.nx) := h
  refine wpAny_bind (thn (lc_core (Qf := fun _ s' => SP X pins D .next s') hc hN I hi ok hg ht he hs h fun L C s' m H' I' q hn f => ?_) fun _ s' hq => wpAny_pure (wpAny_pure hq))
  show wpAny _ _ (assign (.Name y py) X.env (.ref L)) _ _ _
  refine wpAny_assign_Name (store_ok2 (v := V.ref L) I' hN hy (.inl hyl) rfl (fun s2 I2 ⟨a, sb, ha⟩ => ?_) (.inr hyl))
  obtain ⟨f0, f1, f2, f3, f4, f5⟩ := f
  have haC : C ≠ a := by
    rcases ha with z | z
    · rw [z]; exact f1
    · exact fun e => f4 y a z e.symm
  refine ⟨m, hn.sameBut sb haC, fun h3 sb3 => ?_⟩
  exact ⟨_, H', I2.turned (t' := s2.toks) (fun b o hb e => (sb3.2 b hb).trans e) f0 f1 f3 f4 f5, q⟩
end
def blkC (N : List Str) (sc scope : Scope) (own : List (Str × Nat)) : Bool :=
  (match scope.kind with | .function => true | _ => false) && (scope.names.all fun y => decide (scope.names.lookup y.1 = some y.2)) && (own.all fun p => decide (N[p.2]? = some p.1)) &&
    (scope.names.all fun y => match y.2 with
      | .free => (match sc.names.lookup y.1 with | some .cell => true | some .free => true | _ => false)
      | .local => decide (y.1 ∈ own.map (·.1)) || decide (y.1 ∉ N)
      | .cell => decide (y.1 ∈ own.map (·.1)) || decide (y.1 ∉ N)
      | _ => true)
theorem blkOk_by {N : List Str} {sc scope : Scope} {own : List (Str × Nat)} (h : blkC N sc scope own = true) : BlkOk N sc scope own := by
  unfold blkC at h
  simp only [Bool.and_eq_true, List.all_eq_true, decide_eq_true_eq] at h
  obtain ⟨⟨⟨h1, h2⟩, h3⟩, h4⟩ := h
  refine ⟨?_, h2, h3, fun y hy e => ?_, fun y hy e => ?_⟩
  · split at h1
    · assumption
    · cases h1
  · have q := h4 y hy
    simp only [e] at q
    split at q <;> first | exact .inl (by assumption) | exact .inr (by assumption) | cases q
  · have q := h4 y hy
    rcases e with e | e <;> (simp only [e, Bool.or_eq_true, decide_eq_true_eq] at q; exact q)
end L2
namespace L2
open PySem PySem.Spec PyProof.Rows
section
variable {prog : Program} {w : World} {A : Around} {R : Result → Shared → Prop} {s : Shared} {elt t0 i0 t1 i1 : Expr} {ifs0 ifs1 : List Expr} {scope : Scope} {pos : Pos} {it acc : Value} {env : Env}
end
section
variable {X : Cx}
end
end L2
namespace L2
open PySem PySem.Spec PyProof.Rows
section
variable {κ : Type} [DecidableEq κ]
end
section
variable {P : Program} {w : World} {H : Hp} {h : Heap} {a : Addr}
end
section
variable {X : Cx} {pins : List (Addr × Obj)} {σ : St} {H : Hp} {s : Shared} {a : Addr} {y v : V} {u r : Value} {o : Option V} {A : Around} {E : Value → Shared → Prop}
end
section
variable {X : Cx} {pins : List (Addr × Obj)} {σ : St} {H : Hp} {s : Shared} {a : Addr} {kvs : List (Key × V)} {k : Key} {u : Value} {A : Around} {E : Value → Shared → Prop}
end
section
variable {X : Cx} {o i e value : Expr} {pos pos' tpos : Pos} {td ty tv : TE}
end
section
variable {X : Cx} {pos : Pos}
end
section
variable {X : Cx} {pins : List (Addr × Obj)} {σ : St} {H : Hp} {s : Shared} {a : Addr} {y d : V} {u r : Value} {o : Option V} {A : Around} {E : Value → Shared → Prop}
end
section
variable {X : Cx} {o e f : Expr} {apos cpos : Pos} {td ty tx : TE}
end
section
variable {X : Cx} {pins : List (Addr × Obj)} {σ : St} {H : Hp} {s : Shared} {a : Addr} {kvs : List (Key × V)} {A : Around} {E : Value → Shared → Prop}
end
section
variable {X : Cx} {pins : List (Addr × Obj)} {σ : St} {H : Hp} {s : Shared} {a : Addr} {y : V} {u : Value} {A : Around} {E : Value → Shared → Prop}
end
end L2
namespace L2
open PySem PySem.Spec PyProof.Rows
section
variable {prog : Program} {w : World} {A : Around} {E : Value → Shared → Prop}
end
section
variable {X : Cx}
end
end L2
namespace L2
open PySem PySem.Spec PyProof.Rows
section
variable {X : Cx} {pins : List (Addr × Obj)} {σ : St} {H : Hp} {s : Shared} {h' : Heap}
theorem Inv.turnedL {t' : Nat} {ch : List Addr} (I : Inv X pins σ H s) (k : ∀ b o, b ∉ ch → s.heap.get? b = some o → h'.get? b = some o) (hf : ∀ b ∈ ch, FpOk X pins H b) : Inv X pins σ H { s with heap := h', toks := t' } := by
  have nit : ∀ b u, H b = some u → b ∉ ch := fun b u e z => by
    have q := (hf b z).1
    rw [q] at e; cases e
  refine I.step (g' := s.gens) (d' := s.drawn) (ch := ch) (fun b hb => ⟨(hf b hb).2.2.2.1, (hf b hb).2.1, (hf b hb).2.2.2.2.1, (hf b hb).2.2.2.2.2⟩) (fun b o _ _ hc e _ => k b o hc e) (fun b o _ _ hc e _ => ⟨o.slots, k b o hc e⟩)
    (fun _ _ _ _ n => n) (fun b o hc e => ⟨o, k b o hc e⟩) (fun _ _ e => e) (fun _ _ _ e => e) (fun b ps e => ⟨#[], by rw [e]; simp⟩) (fun m hm => ?_) (fun b u e => ?_) I.bare
  · obtain ⟨o, es, ep, ho, r⟩ := hm
    exact ⟨o, es, ep, k _ o (fun z => (hf _ z).2.1 rfl) ho, r⟩
  · refine (I.hok b u e).stay (fun c v hc q => k c v ?_ q) (fun _ q => q) fun _ _ q => q
    rcases hc with z | z
    · rw [z]; exact nit b u e
    · exact nit c _ z
theorem Inv.turnedNew {t' : Nat} {ch : List Addr} {T : Addr} {ob : HO} (I : Inv X pins σ H s) (k : ∀ b o, b ∉ ch → s.heap.get? b = some o → h'.get? b = some o) (hf : ∀ b ∈ ch, FpOk X pins H b) (hT : s.heap.objs.size ≤ T)
    (new : ObjOk X.prog X.w (upd H T ob) h' T ob) : Inv X pins σ (upd H T ob) { s with heap := h', toks := t' } := by
  have hn : H T = none := I.hok.fresh hT
  have nit : ∀ b u, H b = some u → b ∉ ch := fun b u e z => by
    have q := (hf b z).1
    rw [q] at e; cases e
  refine I.step (g' := s.gens) (d' := s.drawn) (ch := ch) (fun b hb => ⟨(hf b hb).2.2.2.1, (hf b hb).2.1, (hf b hb).2.2.2.2.1, (hf b hb).2.2.2.2.2⟩) (fun b o _ _ hc e _ => k b o hc e) (fun b o _ _ hc e _ => ⟨o.slots, k b o hc e⟩)
    (fun b o _ e n => ?_) (fun b o hc e => ⟨o, k b o hc e⟩) (fun b xs e => ?_) (fun b o u e => ?_) (fun b ps e => ⟨#[], ?_⟩) (fun m hm => ?_) (fun b u e => ?_) I.bare
  · rw [upd_ne (Nat.ne_of_lt (Nat.lt_of_lt_of_le (Heap.lt_size e) hT))]; exact n
  · rw [upd_ne (ne_of_none e hn)]; exact e
  · rw [upd_ne (ne_of_none e hn)]; exact e
  · rw [upd_ne (ne_of_none e hn), e]; simp
  · obtain ⟨o, es, ep, ho, r⟩ := hm
    exact ⟨o, es, ep, k _ o (fun z => (hf _ z).2.1 rfl) ho, r⟩
  · by_cases hb : b = T
    · subst hb
      rw [upd_same] at e
      cases e
      exact new
    · rw [upd_ne hb] at e
      refine (I.hok b u e).stay (fun c v hc q => k c v ?_ q) (fun c q => by rw [upd_ne (ne_of_none q hn)]; exact q) fun c xs q => by rw [upd_ne (ne_of_none q hn)]; exact q
      rcases hc with z | z
      · rw [z]; exact nit b u e
      · exact nit c _ z
end
section
variable {X : Cx}
end
section
variable {X : Cx} {tg : Expr}
end
section
variable {X : Cx} {tg : Expr}
end
section
variable {prog : Program} {w : World} {A : Around} {E : Value → Shared → Prop} {s : Shared}
end
section
variable {X : Cx} {pins : List (Addr × Obj)} {σ : St} {H : Hp} {s : Shared} {d : Addr} {o : Obj}
end
section
variable {P : Program} {w : World} {K : PySem.W.Frag} {tg : Expr} {d : Addr} {o : Obj} {es : Array DictEntry} {ep : Nat}
end
section
variable {X : Cx} {tg e : Expr} {td : TE} {apos cpos : Pos}
end
theorem boot_zip5 : bootBuiltins "zip" = some (.type "zip") := by decide +kernel
def Itz (K : PySem.W.Frag) (a b : Addr) : It :=
  ⟨fun i H => ∃ (xs ys : List V) (x y : V), SqL K H a xs ∧ SqL K H b ys ∧ xs[i]? = some x ∧ ys[i]? = some y,
    fun i H v H' => ∃ T x y, v = .ref T ∧ H T = none ∧ H' = upd H T (.tup [x, y]) ∧ (∀ xs, SqL K H a xs → xs[i]? = some x) ∧ ∀ ys, SqL K H b ys → ys[i]? = some y,
    fun i H => ∃ xs ys : List V, SqL K H a xs ∧ SqL K H b ys ∧ (xs.length ≤ i ∨ ys.length ≤ i)⟩
theorem turn_zip {P : Program} {w : World} {K : PySem.W.Frag} {elts : List Expr} {kk : Nat} {tpos : Pos} {a b z TI TO i1 i2 : Addr} (D : ZipApart z TI TO i1 i2 a b) :
    Turn P w K (.Tuple elts kk tpos) (Itz K a b) [z, TI, TO, i1, i2] z (fun i h => IsZip h z TI TO .none ∧ IsPair h TI (.ref i1) (.ref i2) ∧ (∃ x y, IsPair h TO x y) ∧ h.IsListIter i1 a i ∧ h.IsListIter i2 b i) where
  mem := by simp
  obj := fun i h st c hc => by
    obtain ⟨hz, hTI, ⟨x, y, hTO⟩, ⟨o1, e1, _, d1⟩, ⟨o2, e2, _, d2⟩⟩ := st
    have e' : c = z ∨ c = TI ∨ c = TO ∨ c = i1 ∨ c = i2 := by simpa using hc
    rcases e' with q | q | q | q | q
    · rw [q]; exact ⟨_, hz, fun v q => nomatch q⟩
    · rw [q]; exact ⟨_, hTI, fun v q => nomatch q⟩
    · rw [q]; exact ⟨_, hTO, fun v q => nomatch q⟩
    · rw [q]; exact ⟨o1, e1, fun v q => by rw [d1] at q; cases q⟩
    · rw [q]; exact ⟨o2, e2, fun v q => by rw [d2] at q; cases q⟩
  keep := fun i h h' st k => by
    obtain ⟨hz, hTI, ⟨x, y, hTO⟩, h1, h2⟩ := st
    exact ⟨k z (by simp) _ hz, k TI (by simp) _ hTI, ⟨x, y, k TO (by simp) _ hTO⟩, h1.at fun o q => k i1 (by simp) o q, h2.at fun o q => k i2 (by simp) o q⟩
  item := by
    intro X hP hw hK hc i pins s σ H E I hf st hg
    subst hP hw hK
    obtain ⟨hz, hTI, ⟨x0, y0, hTO⟩, h1, h2⟩ := st
    obtain ⟨xs, ys, x, y, hqx, hqy, hx, hy⟩ := hg
    obtain ⟨its, rv, p, _⟩ := I.list hqx
    obtain ⟨its2, rv2, p2, _⟩ := I.list hqy
    obtain ⟨u, hu, ru⟩ := rv.get hx
    obtain ⟨u2, hu2, ru2⟩ := rv2.get hy
    have hzl : z < s.heap.objs.size := Heap.lt_size hz
    refine wpAny_pyNext_zip_item D hz hTI hTO h1 h2 p.isList p2.isList (x := u) (y := u2) (by simpa using hu) (by simpa using hu2) fun h' z' TO' h1' h2' hT hsz hk => ?_
    refine ⟨_, rfl, wpAny_letOwnedTupleGo_zip (s := { s with heap := h' }) z' fun h'' z'' sb => ?_⟩
    have hT2 : h''.get? s.heap.objs.size = some { cls := .type "tuple", data := .seq #[u, u2] } := (sb.2 _ (Nat.ne_of_gt hzl)).trans hT
    have new : ObjOk X.prog X.w (upd H s.heap.objs.size (.tup [x, y])) h'' s.heap.objs.size (.tup [x, y]) :=
      ⟨by show 2 ≤ sizeLine; decide, [u, u2], .cons ru (.cons ru2 .nil), ⟨_, hT2, rfl, _, rfl⟩⟩
    have I1 : Inv X pins σ (upd H s.heap.objs.size (.tup [x, y])) { s with heap := h'' } :=
      I.turnedNew (t' := s.toks) (ch := [z, TI, TO, i1, i2]) (fun c o hb q => (sb.2 c (fun q' => hb (by simp [q']))).trans (hk c o (fun q' => hb (by simp [q'])) (fun q' => hb (by simp [q'])) (fun q' => hb (by simp [q'])) (fun q' => hb (by simp [q'])) q)) hf (Nat.le_refl _) new
    refine ⟨.ref s.heap.objs.size, _, I1, rfl, ⟨_, x, y, rfl, I.hok.fresh (Nat.le_refl _), rfl, fun l hl => by rw [I.list_inj hl hqx]; exact hx, fun l hl => by rw [I.list_inj hl hqy]; exact hy⟩, ⟨z'', ?_, ⟨u, u2, ?_⟩, ?_, ?_⟩, fun c hcm => ?_⟩
    · exact (sb.2 _ D.TIz).trans (hk _ _ D.TIz D.TITO D.TIi1 D.TIi2 hTI)
    · exact (sb.2 _ D.TOz).trans TO'
    · exact h1'.at fun o q => (sb.2 _ D.i1z).trans q
    · exact h2'.at fun o q => (sb.2 _ D.i2z).trans q
    · have hlt : c < s.heap.objs.size := by
        have e' : c = z ∨ c = TI ∨ c = TO ∨ c = i1 ∨ c = i2 := by simpa using hcm
        rcases e' with q | q | q | q | q
        · rw [q]; exact hzl
        · rw [q]; exact Heap.lt_size hTI
        · rw [q]; exact Heap.lt_size hTO
        · rw [q]; obtain ⟨_, e1, _⟩ := h1; exact Heap.lt_size e1
        · rw [q]; obtain ⟨_, e2, _⟩ := h2; exact Heap.lt_size e2
      rw [upd_ne (Nat.ne_of_lt hlt)]
      exact (hf c hcm).1
  done := by
    intro X hP hw hK hc i pins s σ H E I hf st hg
    subst hP hw hK
    obtain ⟨hz, hTI, ⟨x0, y0, hTO⟩, h1, h2⟩ := st
    obtain ⟨xs, ys, hqx, hqy, hend⟩ := hg
    obtain ⟨its, rv, p, _⟩ := I.list hqx
    obtain ⟨its2, rv2, p2, _⟩ := I.list hqy
    have l1 := rv.length
    have l2 := rv2.length
    have he : its.toArray[i]? = none ∨ its2.toArray[i]? = none := by
      rcases hend with q | q
      · exact .inl (by simp; omega)
      · exact .inr (by simp; omega)
    exact wpAny_pyNext_zip_end (I.ok.hd hc) D hz hTI hTO h1 h2 p.isList p2.isList he fun h' hk => ⟨rfl, I.turnedL (t' := s.toks) (ch := [z, TI, TO, i1, i2]) (fun c o hb q =>
      hk c o (fun q' => hb (by simp [q'])) (fun q' => hb (by simp [q'])) (fun q' => hb (by simp [q'])) (fun q' => hb (by simp [q'])) q) hf⟩
  self := fun A i s Q E st h => wpAny_pyIter_zip st.1 h
def iZip (K : PySem.W.Frag) (ta : TA) : TI := fun σ H R => ta σ H fun vs H1 => ∃ a b xs ys, vs = [.ref a, .ref b] ∧ SqL K H1 a xs ∧ SqL K H1 b ys ∧ R (Itz K a b) H1
theorem pi_zip {X : Cx} {e e2 : Expr} {ta : TA} {p pos tpos : Pos} {elts : List Expr} {kk : Nat} (hg : Gl X "zip") (hm : X.mg "zip" = none) (ha : PA X [e, e2] ta)
    (hs : starEach [e, e2] X.env = (false, eval e X.env) :: starEach [e2] X.env := by rfl) (hpl : (backTo pos (starEach [e2] X.env)).any (·.1) = false := by rfl) :
    PI X (.Tuple elts kk tpos) (.Call (.Name "zip" p) [e, e2] [] pos) (iZip X.K ta) := by
  intro pins s σ H R I h
  refine Call_ (ld_blt I hg hm boot_zip5 (PyProof.Rows.callWith_type1 (thn (ha pos pins s σ H _ I h) fun us s1 ⟨vs, H1, I1, r1, q1⟩ => ?_) hs hpl))
  obtain ⟨a, b, xs, ys, ex, hqx, hqy, q⟩ := q1
  subst ex
  cases r1 with
  | cons r rr =>
    cases rr with
    | cons r' rr =>
      cases rr
      cases r
      cases r'
      obtain ⟨its, rv, p1, _⟩ := I1.list hqx
      obtain ⟨its2, rv2, p2, _⟩ := I1.list hqy
      have la : a < s1.heap.objs.size := p1.lt
      have lb : b < s1.heap.objs.size := p2.lt
      refine call_zip_2 p1.isList p2.isList fun h' hz hTI hTO h1 h2 hsz hk => wpAny_pyIter_zip hz ?_
      have I2 : Inv X pins σ H1 { s1 with heap := h' } := I1.kept (t' := s1.toks) hk
      refine ⟨s1.heap.objs.size + 4, [s1.heap.objs.size + 4, s1.heap.objs.size + 2, s1.heap.objs.size + 3, s1.heap.objs.size, s1.heap.objs.size + 1], _, _, H1, rfl, I2, turn_zip (PySem.W.ktu_apart s1.heap.objs.size a b la lb), ⟨hz, hTI, ⟨_, _, hTO⟩, h1, h2⟩, fun c hcm => ?_, q⟩
      have e' : c = s1.heap.objs.size + 4 ∨ c = s1.heap.objs.size + 2 ∨ c = s1.heap.objs.size + 3 ∨ c = s1.heap.objs.size ∨ c = s1.heap.objs.size + 1 := by simpa using hcm
      have hle : s1.heap.objs.size ≤ c := by
        rcases e' with z | z | z | z | z
        · rw [z]; exact Nat.le_add_right _ _
        · rw [z]; exact Nat.le_add_right _ _
        · rw [z]; exact Nat.le_add_right _ _
        · rw [z]; exact Nat.le_refl _
        · rw [z]; exact Nat.le_add_right _ _
      exact I1.fpOk hle (I1.hok.fresh hle)
end L2
section 
namespace Bits
open PySem PyProof.Rows
end Bits
end 
section 
namespace TL
open PySem PySem.Builtin PySem.Builtin.Str PySem.StrLaws
end TL
end 
namespace L2
open PySem PySem.Spec PyProof.Rows
section
variable {X : Cx} {pins : List (Addr × Obj)} {σ : St} {H : Hp} {s : Shared} {Q : VK}
end
section
variable {X : Cx}
end
section
variable {X : Cx} {o e : Expr} {to te : TE}
end
end L2
namespace L2
open PySem PySem.Spec PyProof.Rows
section
variable {X : Cx}
end
end L2
namespace Att
open PySem PySem.W PySem.Calls PyProof.Rows
section
variable {prog : Program} {w : World} {A : Around} {E : Value → Shared → Prop} {s : Shared} {K : Frag}
end
end Att
namespace L2
open PySem PySem.Spec PyProof.Rows
end L2
namespace L2
open PySem PySem.Spec PyProof.Rows
abbrev KOf {K : PySem.W.Frag} {h : Heap} (_ : K.In h) : PySem.W.Frag := K
end L2
namespace L2
open PySem PySem.Spec PyProof.Rows
def inClass (s : Stmt) (j : Nat) : Stmt := match s with
  | .ClassDef _ _ _ body _ _ _ _ _ _ _ => body.getD j (.Pass ⟨0, 0, 0, 0⟩)
  | _ => .Pass ⟨0, 0, 0, 0⟩
def defArgs (s : Stmt) : Arguments := match s with
  | .FunctionDef _ a _ _ _ _ _ _ _ _ => a
  | _ => { posonlyargs := [], args := [], vararg := none, kwonlyargs := [], kw_defaults := [], kwarg := none, defaults := [] }
def defBody (s : Stmt) : List Stmt := match s with
  | .FunctionDef _ _ b _ _ _ _ _ _ _ => b
  | _ => []
def defScope (s : Stmt) : Scope := match s with
  | .FunctionDef _ _ _ _ _ _ sc _ _ _ => sc
  | _ => { kind := .function, names := [], isGenerator := false, isCoroutine := false }
abbrev CX0 : CXT := fun _ _ _ _ _ _ => False
abbrev E0 : XK := fun _ _ _ => False
theorem pass0 {X : Cx} : Passes CX0 X E0 := fun _ _ _ _ _ _ _ h => h.elim
structure Fun (K : PySem.W.Frag) (x qual : Str) (st : Stmt) (f : Addr) (fd : FuncData) : Prop where
  ex : ∃ (oc : Value) (od : Option Addr) (kV doc pm : Value) (an : Option Addr) (cdv ct : Value) (osl : Array (Option Value)),
    fd = PySem.W.fnOf x qual (defArgs st) (defBody st) (defScope st) .none kV doc pm an cdv ct ∧ K.lookup f = some ⟨oc, od, .func fd, osl⟩ ∧ PySem.W.codeIn K cdv qual = true
  kp : PySem.W.keepIn K (.ref f) = true
section
variable {P : Program} {w : World} {K : PySem.W.Frag} {mg : Str → Option Value} {base : Heap}
theorem Fun.ok {x qual : Str} {st : Stmt} {f : Addr} {fd : FuncData} {N ps : List Str} {k : Nat} {sp : Sp} (F : Fun K x qual st f fd) (S : FnScope N ps (defScope st)) (len : ∀ vs H Q E, sp vs H Q E → vs.length = ps.length)
    (hbody : ∀ (cdv : Value) (A : Around) (outer : List Env) (s : Shared) (H : Hp) (vs : List V) (Q : VK) (E : XK), Room k (A.deeper (envOfC qual (defScope st) s.heap.objs.size f cdv)) → sp vs H Q E →
      ∃ t, PSs (cxOf CX0 P w K mg base N qual (defScope st) f cdv A outer s H E).nox (defBody st) t ∧ t { nx := fun _ H' => Q .non H', rt := Q } (start N vs) H) : FnOk P w K mg base CX0 (k + 1) f fd ps sp := by
  obtain ⟨oc, od, kV, doc, pm, an, cdv, ct, osl, rfl, lk, hcd⟩ := F.ex
  refine fn_of lk hcd S len fun A outer s H vs Q E hr hsp => ?_
  obtain ⟨t, h, q⟩ := hbody cdv A outer s H vs Q E hr hsp
  exact ⟨t, h.nox, q⟩
theorem Fun.binds {x qual : Str} {st : Stmt} {f : Addr} {fd : FuncData} {ps : List Str} (F : Fun K x qual st f fd)
    (h : ∀ (kV doc pm : Value) (an : Option Addr) (cdv ct : Value) (us : List Value), us.length = ps.length → bindArgs (PySem.W.fnOf x qual (defArgs st) (defBody st) (defScope st) .none kV doc pm an cdv ct) ⟨us, []⟩ = pure (ps.zip us)) : Binds K fd ps [] := by
  obtain ⟨oc, od, kV, doc, pm, an, cdv, ct, osl, rfl, lk, hcd⟩ := F.ex
  exact .all (h kV doc pm an cdv ct)
theorem fun_mk {x qual : Str} {st : Stmt} {f : Addr} {oc : Value} {od an : Option Addr} {osl : Array (Option Value)} {kV doc pm cdv ct : Value} (l : K.lookup f = some ⟨oc, od, .func (PySem.W.fnOf x qual (defArgs st) (defBody st) (defScope st) .none kV doc pm an cdv ct), osl⟩)
    (c : PySem.W.codeIn K cdv qual = true) (k : PySem.W.keepIn K (.ref f) = true) : Fun K x qual st f (PySem.W.fnOf x qual (defArgs st) (defBody st) (defScope st) .none kV doc pm an cdv ct) := ⟨⟨oc, od, kV, doc, pm, an, cdv, ct, osl, rfl, l, c⟩, k⟩
end
section
variable {X : Cx}
theorem pv (i : Nat) {x : Str} {pos : Pos} (hN : X.N[i]? = some x := by rfl) (hv : Vis X.env.scope x := by first | exact Or.inl rfl | exact Or.inr (Or.inl rfl) | exact Or.inr (Or.inr rfl)) (hd : (x == ("__debug__" : Str)) = false := by decide)
    (hcd : (x == ("__classdict__" : Str)) = false := by decide) : PE X (.Name x pos) (tVar i) := pe_var hN hv hd hcd
end
theorem iteF {A B : Prop} (h : B) : if false = true then A else B := by
  rw [if_neg Bool.false_ne_true]
  exact h
theorem iteT {A B : Prop} (h : A) : if true = true then A else B := by
  rw [if_pos rfl]
  exact h
theorem ite2 {c A B : Prop} [Decidable c] (h1 : c → A) (h2 : ¬ c → B) : if c then A else B := by
  by_cases h : c
  · rw [if_pos h]
    exact h1 h
  · rw [if_neg h]
    exact h2 h
def Same (H H' : Hp) : Prop := ∀ b o, H b = some o → H' b = some o
theorem Same.refl (H : Hp) : Same H H := fun _ _ h => h
theorem Same.trans {H H1 H2 : Hp} (a : Same H H1) (b : Same H1 H2) : Same H H2 := fun c o h => b c o (a c o h)
theorem Same.seq {K : PySem.W.Frag} {H H' : Hp} {a : Addr} {xs : List V} (e : Same H H') (h : SqL K H a xs) : SqL K H' a xs := by
  rcases h with (h | ⟨o, h⟩) | h
  · exact .inl (.inl (e _ _ h))
  · exact .inl (.inr ⟨o, e _ _ h⟩)
  · exact .inr h
section
variable {κ : Type} [DecidableEq κ]
end
theorem at_of {xs : List V} {z : Int} {j : Nat} {v : V} (e : z = (j : Int)) (h : xs[j]? = some v) : atI xs z = some v := by
  rw [e]
  exact atI_nat h
end L2
set_option maxHeartbeats 2000000
namespace L2
open PySem PySem.Spec PyProof.Rows
open PySem.W (WData Codec OpenSpec Well WellAll ReadsW ReadsAllW)
mutual
inductive Dw (K : PySem.W.Frag) (H : Hp) : V → WData → Prop
  | non : Dw K H .non .none
  | bl (b : Bool) : Dw K H (.bl b) (.bool b)
  | int (i : Int) : Dw K H (.int i) (.int i)
  | str (x : Str) : Dw K H (.str x) (.str x)
  | byt (b : Array UInt8) : Dw K H (.byt b) (.bytes b.toList)
  | lst {a : Addr} {xs : List V} {ds : List WData} : SqL K H a xs → DwAll K H xs ds → Dw K H (.ref a) (.list ds)
  | tup {a : Addr} {xs : List V} {ds : List WData} : SqT K H a xs → DwAll K H xs ds → Dw K H (.ref a) (.tuple ds)
inductive DwAll (K : PySem.W.Frag) (H : Hp) : List V → List WData → Prop
  | nil : DwAll K H [] []
  | cons {v : V} {vs : List V} {d : WData} {ds : List WData} : Dw K H v d → DwAll K H vs ds → DwAll K H (v :: vs) (d :: ds)
end
theorem dw_ints {K : PySem.W.Frag} {H : Hp} : ∀ ns : List Int, DwAll K H (ns.map V.int) (ns.map WData.int)
  | [] => .nil
  | n :: r => .cons (.int n) (dw_ints r)
theorem ints_dw {K : PySem.W.Frag} {H : Hp} : ∀ (ns : List Int) (xs : List V), DwAll K H xs (ns.map WData.int) → xs = ns.map V.int
  | [], xs, h => by
    cases h
    rfl
  | n :: r, xs, h => by
    cases h with
    | cons h1 h2 =>
      cases h1
      rw [ints_dw r _ h2] <;> rfl
section
variable {P : Program} {w : World} {K : PySem.W.Frag} {H : Hp} {h : Heap} {R : PySem.W.WRecords} {cl : Str → Option Addr}
theorem sqL_at {a : Addr} {xs : List V} (hok : HOk P w H h) (KX : K.In h) (q : SqL K H a xs) : ∃ (its : List Value) (o : Obj) (n : Nat), Vals xs its ∧ h.get? a = some o ∧ o.cls = .type "list" ∧ o.data = .seq its.toArray n := by
  rcases q with q | ⟨o, its, n, e, hc, _, hd, _, hv⟩
  · obtain ⟨_, its, n, hv, e⟩ := (show ObjOk P w H h a (.lst xs) from q.ok hok)
    exact ⟨its, _, n, hv, e, rfl, rfl⟩
  · exact ⟨its.toList, o, n, hv, KX _ _ e, hc, by simp [hd]⟩
theorem sqT_at {a : Addr} {xs : List V} (hok : HOk P w H h) (KX : K.In h) (q : SqT K H a xs) : ∃ (its : List Value) (o : Obj) (n : Nat), Vals xs its ∧ h.get? a = some o ∧ o.cls = .type "tuple" ∧ o.data = .seq its.toArray n := by
  rcases q with q | ⟨o, its, n, e, hc, hd, _, hv⟩
  · obtain ⟨_, its, hv, o, e, hc, n, hd⟩ := (show ObjOk P w H h a (.tup xs) from q.ok hok)
    exact ⟨its, o, n, hv, e, hc, hd⟩
  · exact ⟨its.toList, o, n, hv, KX _ _ e, hc, by simp [hd]⟩
mutual
theorem Dw.reads (hok : HOk P w H h) (KX : K.In h) : ∀ (d : WData) (v : V) (u : Value), Dw K H v d → RelV v u → ∃ as, ReadsW R cl h u d as
  | .none, _, _, x, r => by
    cases x
    cases r
    exact ⟨_, ReadsW.none⟩
  | .bool b, _, _, x, r => by
    cases x
    cases r
    exact ⟨_, ReadsW.bool b⟩
  | .int i, _, _, x, r => by
    cases x
    obtain ⟨t, rfl⟩ := r
    exact ⟨_, ReadsW.int i t⟩
  | .str s, _, _, x, r => by
    cases x
    obtain ⟨t, rfl⟩ := r
    exact ⟨_, ReadsW.str s t⟩
  | .bytes b, _, _, x, r => by
    cases x
    obtain ⟨t, rfl⟩ := r
    exact ⟨_, ReadsW.bytes _ t⟩
  | .list ds, _, _, x, r => by
    cases x with
    | lst hs ha =>
      cases r
      obtain ⟨its, o, n, rv, ho, hc, hd⟩ := sqL_at hok KX hs
      obtain ⟨as, hr⟩ := Dw.readsAll hok KX ds _ its ha rv
      exact ⟨_, ReadsW.list ho hc hd hr⟩
  | .tuple ds, _, _, x, r => by
    cases x with
    | tup hs ha =>
      cases r
      obtain ⟨its, o, n, rv, ho, hc, hd⟩ := sqT_at hok KX hs
      obtain ⟨as, hr⟩ := Dw.readsAll hok KX ds _ its ha rv
      exact ⟨_, ReadsW.tuple ho hc hd hr⟩
  | .float _, _, _, x, _ => by cases x
  | .dict _, _, _, x, _ => by cases x
  | .bytearray _, _, _, x, _ => by cases x
  | .set _, _, _, x, _ => by cases x
  | .frozenset _, _, _, x, _ => by cases x
  | .obj _ _, _, _, x, _ => by cases x
theorem Dw.readsAll (hok : HOk P w H h) (KX : K.In h) : ∀ (ds : List WData) (vs : List V) (us : List Value), DwAll K H vs ds → Vals vs us → ∃ as, ReadsAllW R cl h us ds as
  | [], _, _, x, r => by
    cases x
    cases r
    exact ⟨_, ReadsAllW.nil⟩
  | d :: ds, _, _, x, r => by
    cases x with
    | cons h1 h2 =>
      cases r with
      | cons r1 r2 =>
        obtain ⟨as, q1⟩ := Dw.reads hok KX d _ _ h1 r1
        obtain ⟨bs, q2⟩ := Dw.readsAll hok KX ds _ _ h2 r2
        exact ⟨_, ReadsAllW.cons q1 q2⟩
end
end
mutual
def plW : WData → Bool
  | .none => true
  | .bool _ => true
  | .int _ => true
  | .str _ => true
  | .bytes _ => true
  | .list xs => plWs xs
  | .tuple xs => plWs xs
  | _ => false
def plWs : List WData → Bool
  | [] => true
  | x :: r => plW x && plWs r
end
theorem plWs_map {α : Type} {f : α → WData} (h : ∀ a, plW (f a) = true) : ∀ l : List α, plWs (l.map f) = true
  | [] => rfl
  | x :: r => by
    show (plW (f x) && plWs (r.map f)) = true
    rw [h x, plWs_map h r] <;> rfl
theorem pl_enc : ∀ (c : Codec) (a : c.denote), plW (c.enc a) = true
  | .unit, _ => rfl
  | .bool, _ => rfl
  | .int _ _, _ => rfl
  | .nat _ _, _ => rfl
  | .u8, _ => rfl
  | .bytes _ _, _ => rfl
  | .text _ _ _ _, _ => rfl
  | .list _ _ c, a => plWs_map (fun x => pl_enc c x) a
  | .pair c d, a => by
    show (plW (c.enc a.1) && (plW (d.enc a.2) && true)) = true
    rw [pl_enc c a.1, pl_enc d a.2] <;> rfl
  | .triple c d e, a => by
    show (plW (c.enc a.1) && (plW (d.enc a.2.1) && (plW (e.enc a.2.2) && true))) = true
    rw [pl_enc c a.1, pl_enc d a.2.1, pl_enc e a.2.2] <;> rfl
  | .option c, none => rfl
  | .option c, some x => pl_enc c x
theorem pl_encAll : ∀ (cs : List Codec) (a : Codec.denoteAll cs), plWs (Codec.encAll cs a) = true
  | [], _ => rfl
  | c :: cs, a => by
    show (plW (c.enc a.1) && plWs (Codec.encAll cs a.2)) = true
    rw [pl_enc c a.1, pl_encAll cs a.2] <;> rfl
theorem weight_mem : ∀ {xs : List WData} {d : WData}, d ∈ xs → d.weight ≤ WData.weightAll xs
  | [], d, h => absurd h (by simp)
  | x :: r, d, h => by
    show d.weight ≤ x.weight + 1 + WData.weightAll r
    rcases List.mem_cons.mp h with e | m
    · rw [e]
      omega
    · have z := weight_mem m
      omega
def toV : Value → V
  | .none => .non
  | .bool b => .bl b
  | .int i _ => .int i
  | .str x _ => .str x
  | .bytes b _ => .byt b
  | .ref a => .ref a
  | _ => .non
def OkU (A : List Addr) : Value → Prop
  | .none => True
  | .bool _ => True
  | .int _ _ => True
  | .str _ _ => True
  | .bytes _ _ => True
  | .ref a => a ∈ A
  | _ => False
theorem OkU.mono {A B : List Addr} (h : ∀ a ∈ A, a ∈ B) : ∀ {u : Value}, OkU A u → OkU B u := fun {u} x => by
  cases u with
  | ref a => exact h a x
  | none => trivial
  | bool b => trivial
  | int i t => trivial
  | str s t => trivial
  | bytes b t => trivial
  | _ => exact False.elim x
theorem relV_toV {A : List Addr} {u : Value} (x : OkU A u) : RelV (toV u) u := by
  cases u with
  | ref a => rfl
  | none => rfl
  | bool b => rfl
  | int i t => exact ⟨t, rfl⟩
  | str s t => exact ⟨t, rfl⟩
  | bytes b t => exact ⟨t, rfl⟩
  | _ => exact False.elim x
theorem vals_toV {A : List Addr} : ∀ {vs : List Value}, (∀ u ∈ vs, OkU A u) → Vals (vs.map toV) vs
  | [], _ => .nil
  | u :: r, h => .cons (relV_toV (h u (List.mem_cons_self ..))) (vals_toV fun x hx => h x (List.mem_cons_of_mem _ hx))
def ArgOb (h : Heap) (A : List Addr) (a : Addr) : Prop := ∃ vs : List Value, vs.length ≤ sizeLine ∧ (∀ u ∈ vs, OkU A u) ∧
  (h.get? a = some { cls := .type "list", data := .seq vs.toArray } ∨ h.get? a = some { cls := .type "tuple", data := .seq vs.toArray })
theorem ArgOb.mono {h : Heap} {A B : List Addr} {a : Addr} (k : ∀ a ∈ A, a ∈ B) (x : ArgOb h A a) : ArgOb h B a := by
  obtain ⟨vs, h1, h2, h3⟩ := x
  exact ⟨vs, h1, fun u hu => (h2 u hu).mono k, h3⟩
theorem wellAll_len {P : Params} {h : Heap} : ∀ {vs : List Value} {ds : List WData}, WellAll P h vs ds → vs.length = ds.length
  | _, _, .nil => rfl
  | _, _, .cons _ b => by
    show _ + 1 = _ + 1
    rw [wellAll_len b]
theorem well_list {P : Params} {h : Heap} {v : Value} {ds : List WData} (x : Well P h v (.list ds)) : ∃ (a : Addr) (vs : List Value), v = .ref a ∧ h.get? a = some { cls := .type "list", data := .seq vs.toArray } ∧ WellAll P h vs ds := by
  cases x with
  | list ho hall => exact ⟨_, _, rfl, ho, hall⟩
theorem well_tuple {P : Params} {h : Heap} {v : Value} {ds : List WData} (x : Well P h v (.tuple ds)) : ∃ (a : Addr) (vs : List Value), v = .ref a ∧ h.get? a = some { cls := .type "tuple", data := .seq vs.toArray } ∧ WellAll P h vs ds := by
  cases x with
  | tuple ho hall => exact ⟨_, _, rfl, ho, hall⟩
theorem well_cons {P : Params} {h : Heap} {us : List Value} {d : WData} {ds : List WData} (x : WellAll P h us (d :: ds)) : ∃ (v : Value) (vs : List Value), us = v :: vs ∧ Well P h v d ∧ WellAll P h vs ds := by
  cases x with
  | cons a b => exact ⟨_, _, rfl, a, b⟩
theorem line_of {n : Nat} (h : n ≤ 1048576) : n ≤ sizeLine := Nat.le_trans h (by decide)
section
variable {P : Params} {h : Heap}
mutual
theorem area_one : ∀ (d : WData) (v : Value), Well P h v d → plW d = true → d.weight ≤ 1048576 → ∃ A : List Addr, OkU A v ∧ ∀ a ∈ A, ArgOb h A a
  | .none, _, x, _, _ => by
    cases x
    exact ⟨[], trivial, fun a m => absurd m (by simp)⟩
  | .bool b, _, x, _, _ => by
    cases x
    exact ⟨[], trivial, fun a m => absurd m (by simp)⟩
  | .int i, _, x, _, _ => by
    cases x
    exact ⟨[], trivial, fun a m => absurd m (by simp)⟩
  | .str s, _, x, _, _ => by
    cases x
    exact ⟨[], trivial, fun a m => absurd m (by simp)⟩
  | .bytes b, _, x, _, _ => by
    cases x
    exact ⟨[], trivial, fun a m => absurd m (by simp)⟩
  | .list ds, _, x, p, z => by
    obtain ⟨a, vs, rfl, ho, hall⟩ := well_list x
    have z2 : WData.weightAll ds ≤ 1048576 := z
    obtain ⟨A, h1, h2⟩ := area_all ds _ hall p fun d hd => Nat.le_trans (weight_mem hd) z2
    have k : ∀ b ∈ A, b ∈ a :: A := fun b hb => List.mem_cons_of_mem _ hb
    refine ⟨a :: A, List.mem_cons_self .., fun b hb => ?_⟩
    rcases List.mem_cons.mp hb with e | m
    · rw [e]
      exact ⟨vs, line_of (by rw [wellAll_len hall]; exact Nat.le_trans (PySem.W.length_le_weightAllW ds) z2), fun u hu => (h1 u hu).mono k, .inl ho⟩
    · exact (h2 b m).mono k
  | .tuple ds, _, x, p, z => by
    obtain ⟨a, vs, rfl, ho, hall⟩ := well_tuple x
    have z2 : WData.weightAll ds ≤ 1048576 := z
    obtain ⟨A, h1, h2⟩ := area_all ds _ hall p fun d hd => Nat.le_trans (weight_mem hd) z2
    have k : ∀ b ∈ A, b ∈ a :: A := fun b hb => List.mem_cons_of_mem _ hb
    refine ⟨a :: A, List.mem_cons_self .., fun b hb => ?_⟩
    rcases List.mem_cons.mp hb with e | m
    · rw [e]
      exact ⟨vs, line_of (by rw [wellAll_len hall]; exact Nat.le_trans (PySem.W.length_le_weightAllW ds) z2), fun u hu => (h1 u hu).mono k, .inr ho⟩
    · exact (h2 b m).mono k
  | .float _, _, _, p, _ => Bool.noConfusion (show false = true from p)
  | .dict _, _, _, p, _ => Bool.noConfusion (show false = true from p)
  | .bytearray _, _, _, p, _ => Bool.noConfusion (show false = true from p)
  | .set _, _, _, p, _ => Bool.noConfusion (show false = true from p)
  | .frozenset _, _, _, p, _ => Bool.noConfusion (show false = true from p)
  | .obj _ _, _, _, p, _ => Bool.noConfusion (show false = true from p)
theorem area_all : ∀ (ds : List WData) (vs : List Value), WellAll P h vs ds → plWs ds = true → (∀ d ∈ ds, d.weight ≤ 1048576) → ∃ A : List Addr, (∀ u ∈ vs, OkU A u) ∧ ∀ a ∈ A, ArgOb h A a
  | [], _, x, _, _ => by
    cases x
    exact ⟨[], fun u m => absurd m (by simp), fun a m => absurd m (by simp)⟩
  | d :: ds, _, x, p, z => by
    obtain ⟨v, vs, rfl, x1, x2⟩ := well_cons x
    have q : plW d = true ∧ plWs ds = true := Bool.and_eq_true_iff.mp p
    obtain ⟨A, a1, a2⟩ := area_one d v x1 q.1 (z d (List.mem_cons_self ..))
    obtain ⟨B, b1, b2⟩ := area_all ds vs x2 q.2 fun e he => z e (List.mem_cons_of_mem _ he)
    have kA : ∀ b ∈ A, b ∈ A ++ B := fun b hb => List.mem_append.mpr (.inl hb)
    have kB : ∀ b ∈ B, b ∈ A ++ B := fun b hb => List.mem_append.mpr (.inr hb)
    refine ⟨A ++ B, fun u hu => ?_, fun b hb => ?_⟩
    · rcases List.mem_cons.mp hu with e | m
      · rw [e]
        exact a1.mono kA
      · exact (b1 u m).mono kB
    · rcases List.mem_append.mp hb with m | m
      · exact (a2 b m).mono kA
      · exact (b2 b m).mono kB
end
end
def hoOf (o : Obj) : Option HO := match o.data with
  | .seq vs _ => if (o.cls == Value.type "list") = true then some (.frz o (.lst (vs.toList.map toV))) else some (.frz o (.tup (vs.toList.map toV)))
  | _ => none
def argH (K : PySem.W.Frag) (h : Heap) (A : List Addr) : Hp := fun b => if b ∈ A then (if (K.lookup b).isNone = true then (h.get? b).bind hoOf else none) else none
def OnlyF (H : Hp) : Prop := ∀ b, H b = none ∨ ∃ o u, H b = some (.frz o u)
theorem hoOf_lst (vs : List Value) : hoOf { cls := .type "list", data := .seq vs.toArray } = some (.frz { cls := .type "list", data := .seq vs.toArray } (.lst (vs.map toV))) := by
  show (if (Value.type "list" == Value.type "list") = true then some (HO.frz { cls := .type "list", data := .seq vs.toArray } (.lst (vs.toArray.toList.map toV))) else some (HO.frz { cls := .type "list", data := .seq vs.toArray } (.tup (vs.toArray.toList.map toV)))) = _
  rw [if_pos (beq_self_eq_true _)]
theorem hoOf_tup (vs : List Value) : hoOf { cls := .type "tuple", data := .seq vs.toArray } = some (.frz { cls := .type "tuple", data := .seq vs.toArray } (.tup (vs.map toV))) := by
  show (if (Value.type "tuple" == Value.type "list") = true then some (HO.frz { cls := .type "tuple", data := .seq vs.toArray } (.lst (vs.toArray.toList.map toV))) else some (HO.frz { cls := .type "tuple", data := .seq vs.toArray } (.tup (vs.toArray.toList.map toV)))) = _
  rw [if_neg (by decide)]
section
variable {P : Program} {w : World} {K : PySem.W.Frag} {h : Heap} {A : List Addr}
theorem argH_at {b : Addr} {o : Obj} (hb : b ∈ A) (hk : K.lookup b = none) (e : h.get? b = some o) : argH K h A b = hoOf o := by
  unfold argH
  rw [if_pos hb, hk, if_pos (show (none : Option Obj).isNone = true from rfl), e] <;> rfl
theorem of_argH {b : Addr} {u : HO} (q : argH K h A b = some u) : b ∈ A ∧ K.lookup b = none := by
  unfold argH at q
  by_cases hb : b ∈ A
  · rw [if_pos hb] at q
    cases hk : K.lookup b with
    | none => exact ⟨hb, rfl⟩
    | some o =>
      rw [hk, if_neg (by simp)] at q
      cases q
  · rw [if_neg hb] at q
    cases q
theorem argH_is (ar : ∀ a ∈ A, ArgOb h A a) {b : Addr} {u : HO} (q : argH K h A b = some u) : K.lookup b = none ∧ ∃ vs : List Value, vs.length ≤ sizeLine ∧ (∀ u ∈ vs, OkU A u) ∧
    ((h.get? b = some { cls := .type "list", data := .seq vs.toArray } ∧ u = .frz { cls := .type "list", data := .seq vs.toArray } (.lst (vs.map toV))) ∨
     (h.get? b = some { cls := .type "tuple", data := .seq vs.toArray } ∧ u = .frz { cls := .type "tuple", data := .seq vs.toArray } (.tup (vs.map toV)))) := by
  obtain ⟨hb, hk⟩ := of_argH q
  obtain ⟨vs, h1, h2, h3⟩ := ar b hb
  refine ⟨hk, vs, h1, h2, ?_⟩
  rcases h3 with e | e
  · rw [argH_at hb hk e, hoOf_lst] at q
    exact .inl ⟨e, (Option.some.inj q).symm⟩
  · rw [argH_at hb hk e, hoOf_tup] at q
    exact .inr ⟨e, (Option.some.inj q).symm⟩
theorem argH_only (ar : ∀ a ∈ A, ArgOb h A a) : OnlyF (argH K h A) := fun b => by
  cases q : argH K h A b with
  | none => exact .inl rfl
  | some u =>
    obtain ⟨_, vs, _, _, ⟨_, e⟩ | ⟨_, e⟩⟩ := argH_is ar q
    · exact .inr ⟨_, _, by rw [e]⟩
    · exact .inr ⟨_, _, by rw [e]⟩
theorem argH_ok (ar : ∀ a ∈ A, ArgOb h A a) : HOk P w (argH K h A) h := fun b u q => by
  obtain ⟨_, vs, h1, h2, ⟨e, rfl⟩ | ⟨e, rfl⟩⟩ := argH_is ar q
  · exact ⟨e, by rw [List.length_map]; exact h1, vs, _, vals_toV h2, e⟩
  · exact ⟨e, by rw [List.length_map]; exact h1, vs, vals_toV h2, _, e, rfl, _, rfl⟩
theorem seq_inj {c c' : Value} {vs us : List Value} (e : (some { cls := c, data := .seq vs.toArray } : Option Obj) = some { cls := c', data := .seq us.toArray }) : c = c' ∧ vs = us := by
  have e1 := Option.some.inj e
  have e2 : c = c' := congrArg Obj.cls e1
  have e3 : Data.seq vs.toArray = Data.seq us.toArray := congrArg Obj.data e1
  injection e3 with e4
  refine ⟨e2, ?_⟩
  have e5 := congrArg Array.toList e4
  simpa using e5
theorem argL (KX : K.In h) (ar : ∀ a ∈ A, ArgOb h A a) {a : Addr} {vs : List Value} (ha : a ∈ A) (e : h.get? a = some { cls := .type "list", data := .seq vs.toArray }) : (∀ u ∈ vs, OkU A u) ∧ SqL K (argH K h A) a (vs.map toV) := by
  obtain ⟨us, h1, h2, h3⟩ := ar a ha
  have hu : us = vs := by
    rcases h3 with q | q
    · rw [e] at q
      exact (seq_inj q).2.symm
    · rw [e] at q
      exact absurd (Value.type.inj (seq_inj q).1) (by decide)
  subst hu
  refine ⟨h2, ?_⟩
  cases hk : K.lookup a with
  | none => exact .inl (.inr ⟨_, by rw [argH_at ha hk e, hoOf_lst]⟩)
  | some o =>
    have e2 := KX a o hk
    rw [e] at e2
    obtain rfl := Option.some.inj e2
    exact .inr ⟨_, us.toArray, _, hk, rfl, rfl, rfl, by rw [List.size_toArray]; exact h1, by simpa using vals_toV h2⟩
theorem argT (KX : K.In h) (ar : ∀ a ∈ A, ArgOb h A a) {a : Addr} {vs : List Value} (ha : a ∈ A) (e : h.get? a = some { cls := .type "tuple", data := .seq vs.toArray }) : (∀ u ∈ vs, OkU A u) ∧ SqT K (argH K h A) a (vs.map toV) := by
  obtain ⟨us, h1, h2, h3⟩ := ar a ha
  have hu : us = vs := by
    rcases h3 with q | q
    · rw [e] at q
      exact absurd (Value.type.inj (seq_inj q).1) (by decide)
    · rw [e] at q
      exact (seq_inj q).2.symm
  subst hu
  refine ⟨h2, ?_⟩
  cases hk : K.lookup a with
  | none => exact .inl (.inr ⟨_, by rw [argH_at ha hk e, hoOf_tup]⟩)
  | some o =>
    have e2 := KX a o hk
    rw [e] at e2
    obtain rfl := Option.some.inj e2
    exact .inr ⟨_, us.toArray, _, hk, rfl, rfl, by rw [List.size_toArray]; exact h1, by simpa using vals_toV h2⟩
mutual
theorem dw_one {Pm : Params} (KX : K.In h) (ar : ∀ a ∈ A, ArgOb h A a) : ∀ (d : WData) (v : Value), Well Pm h v d → plW d = true → OkU A v → Dw K (argH K h A) (toV v) d
  | .none, _, x, _, _ => by
    cases x
    exact .non
  | .bool b, _, x, _, _ => by
    cases x
    exact .bl b
  | .int i, _, x, _, _ => by
    cases x
    exact .int i
  | .str s, _, x, _, _ => by
    cases x
    exact .str s
  | .bytes b, _, x, _, _ => by
    cases x
    have z := Dw.byt (K := K) (H := argH K h A) b.toArray
    exact z
  | .list ds, _, x, p, hu => by
    obtain ⟨a, vs, rfl, ho, hall⟩ := well_list x
    obtain ⟨h2, hs⟩ := argL KX ar hu ho
    exact .lst hs (dw_all KX ar ds _ hall p h2)
  | .tuple ds, _, x, p, hu => by
    obtain ⟨a, vs, rfl, ho, hall⟩ := well_tuple x
    obtain ⟨h2, hs⟩ := argT KX ar hu ho
    exact .tup hs (dw_all KX ar ds _ hall p h2)
  | .float _, _, _, p, _ => Bool.noConfusion (show false = true from p)
  | .dict _, _, _, p, _ => Bool.noConfusion (show false = true from p)
  | .bytearray _, _, _, p, _ => Bool.noConfusion (show false = true from p)
  | .set _, _, _, p, _ => Bool.noConfusion (show false = true from p)
  | .frozenset _, _, _, p, _ => Bool.noConfusion (show false = true from p)
  | .obj _ _, _, _, p, _ => Bool.noConfusion (show false = true from p)
theorem dw_all {Pm : Params} (KX : K.In h) (ar : ∀ a ∈ A, ArgOb h A a) : ∀ (ds : List WData) (vs : List Value), WellAll Pm h vs ds → plWs ds = true → (∀ u ∈ vs, OkU A u) → DwAll K (argH K h A) (vs.map toV) ds
  | [], _, x, _, _ => by
    cases x
    exact .nil
  | d :: ds, _, x, p, hu => by
    obtain ⟨v, vs, rfl, x1, x2⟩ := well_cons x
    have q : plW d = true ∧ plWs ds = true := Bool.and_eq_true_iff.mp p
    exact .cons (dw_one KX ar d v x1 q.1 (hu _ (List.mem_cons_self ..))) (dw_all KX ar ds vs x2 q.2 fun u m => hu u (List.mem_cons_of_mem _ m))
end
end
theorem spec_call {P : Program} {w : World} {K : PySem.W.Frag} {mg mb : Str → Option Value} {CX : CXT} {k : Nat} {fa : Addr} {fd : FuncData} {ps : List Str} {sp : Sp} {s₁ : Shared} {vals : List Value} {ds : List WData} {R : PySem.W.WRecords} {cl : Str → Option Addr} {d0 : WData}
    (KX : K.In s₁.heap) (hns : s₁.heap.Ns mainGlobals mg) (hb : s₁.heap.Ns builtinsNs mb) (hbb : ∀ x : Str, x ≠ "__name__" → mb x = bootBuiltins x) (hlim : s₁.heap.NoLimit) (hg : s₁.gens = #[])
    (hwl : WellAll w.params s₁.heap vals ds) (hpl : plWs ds = true) (hwt : ∀ d ∈ ds, d.weight ≤ 1048576) (hr : Room k callerA)
    (F : ∀ base : Heap, K.In base → base.Ns mainGlobals mg → FnOk P w K mg base CX k fa fd ps sp) (hbind : ∀ (s : Shared) (us : List Value), us.length = ps.length → BindsTo s fd ⟨us, []⟩ (ps.zip us)) (hlen : ds.length = ps.length)
    (hsp : ∀ (H : Hp) (xs : List V), OnlyF H → DwAll K H xs ds → sp xs H (fun v H' => Dw K H' v d0) fun _ _ _ => False)
    (hCX : ∀ H e s', CX [] H s₁ (fun _ _ _ => False) e s' → False) :
    codeAny (model P w) callerA (.call (.ref fa) ⟨vals, []⟩) (fun r s' => ∃ u as, r = .ok (.ret u) ∧ ReadsW R cl s'.heap u d0 as ∧ OldK s₁.heap s'.heap ∧ s'.os = s₁.os ∧ AllBare s'.gens) s₁ := by
  obtain ⟨A, ho, ar⟩ := area_all ds vals hwl hpl hwt
  have hO : OnlyF (argH K s₁.heap A) := argH_only ar
  have hok : HOk P w (argH K s₁.heap A) s₁.heap := argH_ok ar
  have hS := dw_all KX ar ds vals hwl hpl ho
  have hV := vals_toV ho
  have hK : ∀ b u, argH K s₁.heap A b = some u → K.lookup b = none := fun b u q => (argH_is ar q).1
  have noA : ∀ {b : Addr} {o : Obj} {es : Array DictEntry} {ep : Nat}, s₁.heap.get? b = some o → o.data = .dict es ep → argH K s₁.heap A b = none := fun {b o es ep} e d => by
    cases q : argH K s₁.heap A b with
    | none => rfl
    | some u =>
      obtain ⟨_, vs, _, _, ⟨e2, _⟩ | ⟨e2, _⟩⟩ := argH_is ar q
      · rw [e2] at e
        cases e
        have d' : Data.seq vs.toArray _ = Data.dict es ep := d
        cases d'
      · rw [e2] at e
        cases e
        have d' : Data.seq vs.toArray _ = Data.dict es ep := d
        cases d'
  generalize argH K s₁.heap A = H at hO hok hS hK noA
  have base_of : ∀ {b : Addr} {o : Obj}, s₁.heap.get? b = some o → H b = none → (hidT s₁.heap H).get? b = some o := fun e n => hidT_get e n
  have nsK : ∀ {b : Addr} {m : Str → Option Value}, s₁.heap.Ns b m → (hidT s₁.heap H).Ns b m := fun {b m} ⟨o, es, ep, e, d, r⟩ => ⟨o, es, ep, base_of e (noA e d), d, r⟩
  have nK : ∀ b o, K.lookup b = some o → H b = none := fun b o e => by
    cases q : H b with
    | none => rfl
    | some u =>
      rw [hK b u q] at e
      cases e
  have hKb : K.In (hidT s₁.heap H) := fun b o e => base_of (KX b o e) (nK b o e)
  have hM : Mod K mg (hidT s₁.heap H) := ⟨hKb, nsK hns, ⟨mb, nsK hb, hbb⟩, let ⟨mc, h1, h2⟩ := hlim; ⟨mc, nsK h1, h2⟩⟩
  have e0 : Env0 P w K mg (hidT s₁.heap H) callerA [] s₁ H := ⟨rfl, hM, fun b o e => of_hidT e, Nat.le_of_eq (hidT_size _ _), trivial, fun b hb => absurd (show b ∈ ([] : List Addr) from hb) (by simp), hok, .of_eq hg⟩
  have hl : vals.length = ps.length := by rw [wellAll_len hwl]; exact hlen
  refine codeAny_mono ((F _ hKb (nsK hns)).run callerA [] s₁ H ⟨vals, []⟩ vals (vals.map toV) _ _ hr e0 (hbind s₁ vals hl) hV (hsp H _ hO hS)) fun r s' x => ?_
  cases r with
  | error e => exact (hCX H e s' x).elim
  | ok fl =>
    cases fl with
    | next => exact False.elim x
    | brk => exact False.elim x
    | cont => exact False.elim x
    | ret u =>
      obtain ⟨v, H', os, bare, un, hok', r', q⟩ := x
      have kept : ∀ b o, s₁.heap.get? b = some o → s'.heap.get? b = some o := fun b o e => by
        cases q2 : H b with
        | none => exact un.keep b o e q2 (by intro z; exact absurd (show b ∈ ([] : List Addr) from z) (by simp)) (by simp)
        | some u2 =>
          rcases hO b with z | ⟨ob, u3, z⟩
          · rw [q2] at z
            cases z
          · have z2 := un.frzs b ob _ z
            obtain ⟨e1, _⟩ := hok b _ z
            obtain ⟨e2, _⟩ := hok' b _ z2
            rw [e] at e1
            cases e1
            exact e2
      have KX' : K.In s'.heap := fun b o e => kept b o (KX b o e)
      obtain ⟨as, hrd⟩ := Dw.reads (R := R) (cl := cl) hok' KX' d0 v u q r'
      exact ⟨u, as, rfl, hrd, OldK.of_keep kept, os, bare⟩
theorem layable_weight {ds : List WData} (h : WData.layableAll ds = true) : ∀ d ∈ ds, d.weight ≤ 1048576 := fun d hd =>
  (PySem.W.layableW_iff.mp (List.all_eq_true.mp h d hd)).2.2
theorem encAll_len : ∀ (cs : List Codec) (a : Codec.denoteAll cs), (Codec.encAll cs a).length = cs.length
  | [], _ => rfl
  | c :: cs, a => by
    show (Codec.encAll cs a.2).length + 1 = cs.length + 1
    rw [encAll_len cs a.2]
theorem walk_spec {r : OpenSpec} {k : Nat} {q : Program} {loose : List Str} {XP : (Str → Option Value) → Heap → Prop} {YP : World → Heap → Prop} {d : DefRec} {K : Params → PySem.W.Frag} {CX : World → CXT} {ps : List Str} {sp : World → Sp}
    (hwell : r.wellSaid = true) (hdf : d.params.defaults = []) (hlen : r.args.length = ps.length) (hr : Room k callerA)
    (hY : ∀ (w : World) (h : Heap), YP w h → (K w.params).In h)
    (F : ∀ (w : World) (mg : Str → Option Value) (fa : Addr) (h : Heap), YP w h → (K w.params).In h → h.Ns mainGlobals mg → mg d.name = some (.ref fa) →
      ∃ fd : FuncData, (∀ (s : Shared) (us : List Value), us.length = ps.length → BindsTo s fd ⟨us, []⟩ (ps.zip us)) ∧
        ∀ base : Heap, (K w.params).In base → base.Ns mainGlobals mg → FnOk r.prog w (K w.params) mg base (CX w) k fa fd ps (sp w))
    (hsp : ∀ (w : World) (H : Hp) (xs : List V) (a : Codec.denoteAll r.args), OnlyF H → Codec.withinAll r.args a = true → Codec.app r.args r.asked a = true → DwAll (K w.params) H xs (Codec.encAll r.args a) →
      sp w xs H (fun v H' => Dw (K w.params) H' v (r.ret.enc (Codec.app r.args r.f a))) fun _ _ _ => False)
    (hCX : ∀ (w : World) (H : Hp) (s : Shared) (e : Value) (s' : Shared), CX w [] H s (fun _ _ _ => False) e s' → False) :
    PySem.W.WalkOS q loose XP YP r d [] (fun f vs => PySem.call f vs) := by
  intro w s_0 s₁ mg mb G Y fa o pm cd doc dV kV ho hd hcd hD hmg hg args vals as hpre hlay hrd hwl hlo
  obtain ⟨a, e1, e2⟩ := PySem.W.os_pre_some hpre
  obtain ⟨e3, hwi⟩ := Codec.encAll_of_decAll r.args args a e1
  subst e3
  have KX := hY w _ Y
  obtain ⟨fd, hb, hF⟩ := F w mg fa _ Y KX G.T.g hmg
  refine PySem.W.enter_call (codeAny_mono (spec_call (R := []) (cl := classAt s_0.heap) (d0 := r.ret.enc (Codec.app r.args r.f a)) KX G.T.g G.T.b G.T.builtins G.T.nolimit hg hwl (pl_encAll _ _) (layable_weight hlay) hr hF hb (by rw [encAll_len]; exact hlen)
    (fun H xs hO hS => hsp w H xs a hO hwi e2 hS) fun H e s' => hCX w H s₁ e s') fun r' s' hq => ?_)
  obtain ⟨u, as', rfl, h1, h2, h3, h4⟩ := hq
  exact ⟨.inl ⟨u, _, as', rfl, fun _ => rfl, h1, (OpenSpec.post_iff hwell hwi _ _).mpr rfl, fun z => Bool.noConfusion (show false = true from z)⟩, h2, h3, h4⟩
theorem walk_specK {r : OpenSpec} {k : Nat} {q : Program} {loose : List Str} {XP : (Str → Option Value) → Heap → Prop} {YP : World → Heap → Prop} {d : DefRec} {K : Params → PySem.W.Frag} {CX : CXT} {ps : List Str} {sp : PySem.W.Frag → Sp}
    (hwell : r.wellSaid = true) (hdf : d.params.defaults = []) (hlen : r.args.length = ps.length) (hr : Room k callerA)
    (hY : ∀ (w : World) (h : Heap), YP w h → (K w.params).In h)
    (F : ∀ (w : World) (mg : Str → Option Value) (fa : Addr) (h : Heap), YP w h → (K w.params).In h → h.Ns mainGlobals mg → mg d.name = some (.ref fa) →
      ∃ fd : FuncData, (∀ (s : Shared) (us : List Value), us.length = ps.length → BindsTo s fd ⟨us, []⟩ (ps.zip us)) ∧
        ∀ base : Heap, (K w.params).In base → base.Ns mainGlobals mg → FnOk r.prog w (K w.params) mg base CX k fa fd ps (sp (K w.params)))
    (hsp : ∀ (K : PySem.W.Frag) (H : Hp) (xs : List V) (a : Codec.denoteAll r.args), OnlyF H → Codec.withinAll r.args a = true → Codec.app r.args r.asked a = true → DwAll K H xs (Codec.encAll r.args a) →
      sp K xs H (fun v H' => Dw K H' v (r.ret.enc (Codec.app r.args r.f a))) fun _ _ _ => False)
    (hCX : ∀ (H : Hp) (s : Shared) (e : Value) (s' : Shared), CX [] H s (fun _ _ _ => False) e s' → False) :
    PySem.W.WalkOS q loose XP YP r d [] (fun f vs => PySem.call f vs) :=
  walk_spec (K := K) (CX := fun _ => CX) (sp := fun w => sp (K w.params)) hwell hdf hlen hr hY F (fun w H xs a h1 h2 h3 h4 => hsp (K w.params) H xs a h1 h2 h3 h4) fun _ H s e s' => hCX H s e s'
end L2
namespace Mx
open PySem
open Sem (wp)
end Mx
namespace L2
open PySem PySem.Spec PyProof.Rows
section
variable {X : Cx}
def CShlB (i j : Int) : Prop := 0 ≤ j ∧ (Builtin.Int.intBits i : Int) + j ≤ 2 ^ 27
theorem op_shlB : OpR X (binaryOp .LShift) (rI CShlB fun i j => .int (i * 2 ^ j.toNat)) := opI fun _ _ _ _ _ _ _ hc q => PyProof.Rows.lshift_int hc.1 hc.2 q
end
end L2
namespace PySem
open Sem (wp)
namespace Zt
section
variable {prog : Program} {w : World} {A : Around} {E : Value → Shared → Prop} {s : Shared}
theorem nextItem {j t : Addr} {n : Nat} {ys} {y : Value} {Q : Value → Shared → Prop} (hj : s.heap.IsTupleIter j t n) (ht : s.heap.IsTuple t ys) (hy : ys[n]? = some y)
    (k : ∀ h', h'.IsTupleIter j t (n + 1) → Heap.SameBut j s.heap h' → Q y { s with heap := h' }) : wpAny (model prog w) A (Builtin.SmallTypes.nextOf (.ref j)) Q E s := by
  obtain ⟨o, go, gc, gd⟩ := id hj
  obtain ⟨ot, gt, _, nt, gdt⟩ := ht
  unfold Builtin.SmallTypes.nextOf
  refine wpAny_bind (wpAny_callSpecial?_slot (name := Str.ofString "__next__") hj.typeIs F.slot_tuple_iterator_next (wpAny_call_entry F.slot_tuple_iterator_next hj.typeIs F.entry_tuple_iterator_next ?_ (F.args_tuple_iterator_next_1 _)))
  show wpAny _ _ (field (.ref j) 0 >>= _) _ _ s
  refine wpAny_bind (wpAny_field go gd (x := .ref t) rfl ?_)
  show wpAny _ _ (if (Value.ref t == Value.none) = true then _ else _) _ _ s
  rw [if_neg (by intro z; cases z)]
  show wpAny _ _ (field (.ref j) 1 >>= _) _ _ s
  refine wpAny_bind (wpAny_field go gd (x := .int n 0) rfl ?_)
  show wpAny _ _ (seqItems? (.ref t) >>= _) _ _ s
  refine wpAny_bind (wpAny_seqItems gt gdt ?_)
  simp only [Int.toNat_natCast, hy]
  refine wpAny_bind (wpAny_setField go gd (by simp) (wpAny_pure ⟨y, rfl, wpAny_pure (k _ ?_ (Heap.SameBut.update ..))⟩))
  exact ⟨_, Heap.get?_update_self _ go (Obj.isFreed_of_fields (Obj.data_mapFields gd _)), (Obj.cls_mapFields ..).trans gc, by rw [Obj.data_mapFields gd]; simp [rawInt]⟩
theorem nextEnd {j t : Addr} {n : Nat} {ys} {Q : Value → Shared → Prop} (hh : A.handled = none) (hj : s.heap.IsTupleIter j t n) (ht : s.heap.IsTuple t ys) (hy : ys[n]? = none)
    (k : ∀ h' e, Heap.ExtBut j s.heap h' → (∃ o, h'.get? e = some o ∧ o.cls = .type "StopIteration") → E (.ref e) { s with heap := h' }) : wpAny (model prog w) A (Builtin.SmallTypes.nextOf (.ref j)) Q E s := by
  obtain ⟨o, go, gc, gd⟩ := id hj
  obtain ⟨ot, gt, _, nt, gdt⟩ := ht
  unfold Builtin.SmallTypes.nextOf
  refine wpAny_bind (wpAny_callSpecial?_slot (name := Str.ofString "__next__") hj.typeIs F.slot_tuple_iterator_next (wpAny_call_entry F.slot_tuple_iterator_next hj.typeIs F.entry_tuple_iterator_next ?_ (F.args_tuple_iterator_next_1 _)))
  show wpAny _ _ (field (.ref j) 0 >>= _) _ _ s
  refine wpAny_bind (wpAny_field go gd (x := .ref t) rfl ?_)
  show wpAny _ _ (if (Value.ref t == Value.none) = true then _ else _) _ _ s
  rw [if_neg (by intro z; cases z)]
  show wpAny _ _ (field (.ref j) 1 >>= _) _ _ s
  refine wpAny_bind (wpAny_field go gd (x := .int n 0) rfl ?_)
  show wpAny _ _ (seqItems? (.ref t) >>= _) _ _ s
  refine wpAny_bind (wpAny_seqItems gt gdt ?_)
  simp only [Int.toNat_natCast, hy]
  refine wpAny_bind (wpAny_rule (wpAny_bind (wpAny_setField go gd (by simp) ?_)))
  show wpAny _ _ (newExc (.type "StopIteration") [] >>= _) _ _ _
  refine wpAny_bind ?_
  simp only [newExc, newTuple]
  refine wpAny_bind (wpAny_newObj_type ?_ (by size_fits))
  refine wpAny_bind (m := firstArgMember _ _) (wpAny_of_eq (a := Value.none) (by first | rfl | (simp only [firstArgMember]; rfl)) ?_)
  refine wpAny_newObj_type ?_ (by size_fits)
  simp only [raiseNew]
  refine wpAny_bind (wpAny_handled ?_)
  first | rw [show A.in1.handled = none from hh] | rw [hh]
  refine wpAny_bind (wpAny_pure (wpAny_throw ?_))
  exact k _ _ (((Heap.SameBut.update ..).extBut.push _).push _) ⟨_, Heap.get?_push_size _ rfl, rfl⟩
theorem both {z I O i j l t : Addr} {n m : Nat} {xs ys : Array Value} {x y a b : Value} {Q : Value → Shared → Prop} (D : ZipApart z I O i j l t) (qz : IsZip s.heap z I O .none) (qI : IsPair s.heap I (.ref i) (.ref j)) (qO : IsPair s.heap O a b)
    (q1 : s.heap.IsListIter i l n) (q2 : s.heap.IsTupleIter j t m) (ql : s.heap.IsList l xs) (qt : s.heap.IsTuple t ys) (hx : xs[n]? = some x) (hy : ys[m]? = some y)
    (k : ∀ h', IsZip h' z I O (rawInt s.heap.objs.size) → IsPair h' O x y → h'.IsListIter i l (n + 1) → h'.IsTupleIter j t (m + 1) → IsPair h' s.heap.objs.size x y → h'.objs.size = s.heap.objs.size + 1 →
      (∀ c o, c ≠ z → c ≠ O → c ≠ i → c ≠ j → s.heap.get? c = some o → h'.get? c = some o) → Q (.ref s.heap.objs.size) { s with heap := h' }) :
    wpAny (model prog w) A (Builtin.«zip.__next__» ⟨[.ref z], []⟩) (fun fin s' => ∃ v, fin = .done (.ret v) ∧ Q v s') E s := by
  show wpAny _ _ (field (.ref z) 2 >>= _) _ _ _
  refine wpAny_bind (wpAny_field qz rfl (x := .bool false) rfl ?_)
  show wpAny _ _ (field (.ref z) 3 >>= _) _ _ _
  refine wpAny_bind (wpAny_field qz rfl (x := .ref I) rfl ?_)
  refine wpAny_bind (wpAny_seqItems qI rfl ?_)
  show wpAny _ _ (Builtin.SmallTypes.ownedTupleIsFree (.ref z) >>= _) _ _ _
  refine wpAny_bind ?_
  unfold Builtin.SmallTypes.ownedTupleIsFree
  refine wpAny_bind (wpAny_field qz rfl (x := .none) rfl (wpAny_pure ?_))
  simp only [if_true]
  refine wpAny_bind (wpAny_rule ?_)
  refine wpAny_bind (wpAny_field qz rfl (x := .ref O) rfl ?_)
  refine wpAny_bind (wpAny_setField_rec qz (by simp) fun h1 qz1 s1 => ?_)
  replace qz1 : IsZip h1 z I O .ellipsis := qz1
  refine wpAny_bind ?_
  simp only [List.forIn_cons, List.forIn_nil, List.zipIdx_cons, List.zipIdx_nil]
  refine wpAny_bind (wpAny_bind (wpAny_onRaise ?_))
  show wpAny _ _ (Builtin.SmallTypes.nextOf (.ref i) >>= _) _ _ _
  refine wpAny_bind (wpAny_nextOf_list_item (q1.extBut s1.extBut D.i1z) (ql.extBut s1.extBut D.l1z) hx fun h2 q12 s2 => wpAny_pure ?_)
  have qO2 : IsPair h2 O a b := s2.extBut _ _ D.TOi1 (s1.extBut _ _ D.TOz qO)
  refine wpAny_bind (wpAny_seqItems qO2 rfl ?_)
  refine wpAny_bind (wpAny_updateSeq_pair qO2 fun h3 qO3 s3 => ?_)
  replace qO3 : IsPair h3 O x b := qO3
  refine wpAny_bind (wpAny_letGo (wpAny_pure ?_))
  refine wpAny_bind (wpAny_bind (wpAny_onRaise ?_))
  show wpAny _ _ (Builtin.SmallTypes.nextOf (.ref j) >>= _) _ _ _
  refine wpAny_bind (nextItem (((q2.extBut s1.extBut D.i2z).extBut s2.extBut D.i12.symm).extBut s3.extBut D.TOi2.symm) (((qt.extBut s1.extBut D.l2z).extBut s2.extBut D.l2i1).extBut s3.extBut D.l2TO) hy fun h4 q24 s4 => wpAny_pure ?_)
  have qO4 : IsPair h4 O x b := s4.extBut _ _ D.TOi2 qO3
  refine wpAny_bind (wpAny_seqItems qO4 rfl ?_)
  refine wpAny_bind (wpAny_updateSeq_pair qO4 fun h5 qO5 s5 => ?_)
  replace qO5 : IsPair h5 O x y := qO5
  refine wpAny_bind (wpAny_letGo (wpAny_pure (wpAny_pure ?_)))
  refine wpAny_bind (wpAny_seqItems qO5 rfl ?_)
  refine wpAny_bind (wpAny_newTuple ?_)
  have hsz : h5.objs.size = s.heap.objs.size := by rw [s5.1, s4.1, s3.1, s2.1, s1.1]
  have qz5 : IsZip h5 z I O .ellipsis := s5.extBut _ _ D.TOz.symm (s4.extBut _ _ D.i2z.symm (s3.extBut _ _ D.TOz.symm (s2.extBut _ _ D.i1z.symm qz1)))
  have old : ∀ c o, c ≠ z → c ≠ O → c ≠ i → c ≠ j → s.heap.get? c = some o → h5.get? c = some o := fun c o c1 c2 c3 c4 e => s5.extBut _ _ c2 (s4.extBut _ _ c4 (s3.extBut _ _ c2 (s2.extBut _ _ c3 (s1.extBut _ _ c1 e))))
  have q15 : h5.IsListIter i l (n + 1) := ((q12.extBut s3.extBut D.TOi1.symm).extBut s4.extBut D.i12).extBut s5.extBut D.TOi1.symm
  have q25 : h5.IsTupleIter j t (m + 1) := q24.extBut s5.extBut D.TOi2.symm
  have zl : z < h5.objs.size := Heap.lt_size qz5
  show wpAny _ _ (Builtin.SmallTypes.ownedTupleHandOut (.ref z) (.ref h5.objs.size) >>= _) _ _ _
  refine wpAny_bind ?_
  unfold Builtin.SmallTypes.ownedTupleHandOut
  have qz6 : IsZip (h5.push { cls := .type "tuple", data := .seq #[x, y] }) z I O .ellipsis := Heap.get?_push_of_some _ qz5
  refine wpAny_bind (wpAny_setField_rec qz6 (by simp) fun h7 qz7 s7 => ?_)
  replace qz7 : IsZip h7 z I O (rawInt h5.objs.size) := qz7
  refine wpAny_setField_rec qz7 (by simp) fun h8 qz8 s8 => ?_
  replace qz8 : IsZip h8 z I O (rawInt h5.objs.size) := qz8
  have up : ∀ c o, c ≠ z → h5.get? c = some o → h8.get? c = some o := fun c o c1 e => s8.extBut _ _ c1 (s7.extBut _ _ c1 (Heap.get?_push_of_some _ e))
  have qT : IsPair h8 h5.objs.size x y := s8.extBut _ _ (Nat.ne_of_gt zl) (s7.extBut _ _ (Nat.ne_of_gt zl) (Heap.get?_push_size _ rfl))
  have sz8 : h8.objs.size = h5.objs.size + 1 := by rw [s8.1, s7.1, Heap.size_push]
  rw [hsz] at qz8 qT sz8
  refine wpAny_pure ⟨_, rfl, ?_⟩
  show Q (.ref h5.objs.size) _
  rw [hsz]
  obtain ⟨oj, ej, rj⟩ := q25
  exact k h8 qz8 (up _ _ D.TOz qO5) (q15.at fun o e => up _ o D.i1z e) ⟨oj, up _ _ D.i2z ej, rj⟩ qT sz8 fun c o c1 c2 c3 c4 e => up c o c1 (old c o c1 c2 c3 c4 e)
theorem stop {z I O i j l t : Addr} {n m : Nat} {xs ys : Array Value} {a b : Value} {Q : Fin → Shared → Prop} (hh : A.handled = none) (D : ZipApart z I O i j l t) (qz : IsZip s.heap z I O .none) (qI : IsPair s.heap I (.ref i) (.ref j)) (qO : IsPair s.heap O a b)
    (q1 : s.heap.IsListIter i l n) (q2 : s.heap.IsTupleIter j t m) (ql : s.heap.IsList l xs) (qt : s.heap.IsTuple t ys) (hend : xs[n]? = none ∨ ys[m]? = none)
    (k : ∀ h' e, (∀ c o, c ≠ z → c ≠ O → c ≠ i → c ≠ j → s.heap.get? c = some o → h'.get? c = some o) → (∃ o, h'.get? e = some o ∧ o.cls = .type "StopIteration") → E (.ref e) { s with heap := h' }) :
    wpAny (model prog w) A (Builtin.«zip.__next__» ⟨[.ref z], []⟩) Q E s := by
  show wpAny _ _ (field (.ref z) 2 >>= _) _ _ _
  refine wpAny_bind (wpAny_field qz rfl (x := .bool false) rfl ?_)
  show wpAny _ _ (field (.ref z) 3 >>= _) _ _ _
  refine wpAny_bind (wpAny_field qz rfl (x := .ref I) rfl ?_)
  refine wpAny_bind (wpAny_seqItems qI rfl ?_)
  show wpAny _ _ (Builtin.SmallTypes.ownedTupleIsFree (.ref z) >>= _) _ _ _
  refine wpAny_bind ?_
  unfold Builtin.SmallTypes.ownedTupleIsFree
  refine wpAny_bind (wpAny_field qz rfl (x := .none) rfl (wpAny_pure ?_))
  simp only [if_true]
  refine wpAny_bind (wpAny_rule ?_)
  refine wpAny_bind (wpAny_field qz rfl (x := .ref O) rfl ?_)
  refine wpAny_bind (wpAny_setField_rec qz (by simp) fun h1 qz1 s1 => ?_)
  replace qz1 : IsZip h1 z I O .ellipsis := qz1
  refine wpAny_bind ?_
  simp only [List.forIn_cons, List.forIn_nil, List.zipIdx_cons, List.zipIdx_nil]
  refine wpAny_bind (wpAny_bind (wpAny_onRaise ?_))
  show wpAny _ _ (Builtin.SmallTypes.nextOf (.ref i) >>= _) _ _ _
  cases hx : xs[n]? with
  | none =>
    refine wpAny_bind (wpAny_nextOf_list_end hh (q1.extBut s1.extBut D.i1z) (ql.extBut s1.extBut D.l1z) hx fun h2 e s2 he => ?_)
    obtain ⟨oe, ge, ce⟩ := he
    have qz2 : IsZip h2 z I O .ellipsis := s2 _ _ D.i1z.symm qz1
    have ez : e ≠ z := fun q => by subst q; rw [qz2] at ge; cases ge; simp at ce
    exact wpAny_setField_rec qz2 (by simp) fun h3 _ s3 => k h3 e (fun c o c1 _ c3 _ q => s3.extBut _ _ c1 (s2 _ _ c3 (s1.extBut _ _ c1 q))) ⟨oe, s3.extBut _ _ ez ge, ce⟩
  | some x =>
    have hy : ys[m]? = none := by
      rcases hend with q | q
      · rw [hx] at q; cases q
      · exact q
    refine wpAny_bind (wpAny_nextOf_list_item (q1.extBut s1.extBut D.i1z) (ql.extBut s1.extBut D.l1z) hx fun h2 q12 s2 => wpAny_pure ?_)
    have qO2 : IsPair h2 O a b := s2.extBut _ _ D.TOi1 (s1.extBut _ _ D.TOz qO)
    refine wpAny_bind (wpAny_seqItems qO2 rfl ?_)
    refine wpAny_bind (wpAny_updateSeq_pair qO2 fun h3 qO3 s3 => ?_)
    refine wpAny_bind (wpAny_letGo (wpAny_pure ?_))
    refine wpAny_bind (wpAny_bind (wpAny_onRaise ?_))
    show wpAny _ _ (Builtin.SmallTypes.nextOf (.ref j) >>= _) _ _ _
    refine wpAny_bind (nextEnd hh (((q2.extBut s1.extBut D.i2z).extBut s2.extBut D.i12.symm).extBut s3.extBut D.TOi2.symm) (((qt.extBut s1.extBut D.l2z).extBut s2.extBut D.l2i1).extBut s3.extBut D.l2TO) hy fun h4 e s4 he => ?_)
    obtain ⟨oe, ge, ce⟩ := he
    have qz4 : IsZip h4 z I O .ellipsis := s4 _ _ D.i2z.symm (s3.extBut _ _ D.TOz.symm (s2.extBut _ _ D.i1z.symm qz1))
    have ez : e ≠ z := fun q => by subst q; rw [qz4] at ge; cases ge; simp at ce
    exact wpAny_setField_rec qz4 (by simp) fun h5 _ s5 => k h5 e (fun c o c1 c2 c3 c4 q => s5.extBut _ _ c1 (s4 _ _ c4 (s3.extBut _ _ c2 (s2.extBut _ _ c3 (s1.extBut _ _ c1 q))))) ⟨oe, s5.extBut _ _ ez ge, ce⟩
theorem nextOne {z I O i j l t : Addr} {n m : Nat} {xs ys : Array Value} {x y a b : Value} {Q : Option Value → Shared → Prop} (D : ZipApart z I O i j l t) (qz : IsZip s.heap z I O .none) (qI : IsPair s.heap I (.ref i) (.ref j)) (qO : IsPair s.heap O a b)
    (q1 : s.heap.IsListIter i l n) (q2 : s.heap.IsTupleIter j t m) (ql : s.heap.IsList l xs) (qt : s.heap.IsTuple t ys) (hx : xs[n]? = some x) (hy : ys[m]? = some y)
    (k : ∀ h', IsZip h' z I O (rawInt s.heap.objs.size) → IsPair h' O x y → h'.IsListIter i l (n + 1) → h'.IsTupleIter j t (m + 1) → IsPair h' s.heap.objs.size x y → h'.objs.size = s.heap.objs.size + 1 →
      (∀ c o, c ≠ z → c ≠ O → c ≠ i → c ≠ j → s.heap.get? c = some o → h'.get? c = some o) → Q (some (.ref s.heap.objs.size)) { s with heap := h' }) : wpAny (model prog w) A (pyNext (.ref z)) Q E s := by
  have ty : s.TypeIs (.ref z) "zip" := ⟨_, qz, rfl⟩
  unfold pyNext
  exact wpAny_bind (wpAny_attempt (wpAny_callSpecial?_slot (name := Str.ofString "__next__") ty F.slot_zip_next (wpAny_call_entry F.slot_zip_next ty F.entry_zip_next
    (both D qz qI qO q1 q2 ql qt hx hy fun h' a1 a2 a3 a4 a5 a6 a7 => wpAny_pure (k h' a1 a2 a3 a4 a5 a6 a7)) (F.args_zip_next_1 _))))
theorem nextNone {z I O i j l t : Addr} {n m : Nat} {xs ys : Array Value} {a b : Value} {Q : Option Value → Shared → Prop} (hh : A.handled = none) (D : ZipApart z I O i j l t) (qz : IsZip s.heap z I O .none) (qI : IsPair s.heap I (.ref i) (.ref j)) (qO : IsPair s.heap O a b)
    (q1 : s.heap.IsListIter i l n) (q2 : s.heap.IsTupleIter j t m) (ql : s.heap.IsList l xs) (qt : s.heap.IsTuple t ys) (hend : xs[n]? = none ∨ ys[m]? = none)
    (k : ∀ h', (∀ c o, c ≠ z → c ≠ O → c ≠ i → c ≠ j → s.heap.get? c = some o → h'.get? c = some o) → Q none { s with heap := h' }) : wpAny (model prog w) A (pyNext (.ref z)) Q E s := by
  have ty : s.TypeIs (.ref z) "zip" := ⟨_, qz, rfl⟩
  unfold pyNext
  refine wpAny_bind (wpAny_attempt (wpAny_callSpecial?_slot (name := Str.ofString "__next__") ty F.slot_zip_next (wpAny_call_entry F.slot_zip_next ty F.entry_zip_next
    (stop hh D qz qI qO q1 q2 ql qt hend fun h' e hk he => ?_) (F.args_zip_next_1 _))))
  obtain ⟨o, ho, hc⟩ := he
  refine wpAny_bind (wpAny_isInstance (T := "StopIteration") (b := true) ⟨o, ho, hc⟩ isSubtype_stop ?_)
  exact wpAny_pure (k _ hk)
end
abbrev m1 (h : Heap) (l : Addr) : Heap := h.push { cls := .type "list_iterator", data := .fields #[.ref l, .int 0 0] }
abbrev m2 (h : Heap) (l t : Addr) : Heap := (m1 h l).push { cls := .type "tuple_iterator", data := .fields #[.ref t, .int 0 0] }
abbrev m3 (h : Heap) (l t : Addr) : Heap := (m2 h l t).push { cls := .type "tuple", data := .seq #[.ref h.objs.size, .ref (m1 h l).objs.size] }
abbrev m4 (h : Heap) (l t : Addr) : Heap := (m3 h l t).push { cls := .type "tuple", data := .seq #[.none, .none] }
abbrev m5 (h : Heap) (l t : Addr) : Heap := (m4 h l t).push { cls := .type "zip", data := .fields #[.none, .bool false, .bool false, .ref (m2 h l t).objs.size, .ref (m3 h l t).objs.size] }
theorem made (l t : Addr) (xs ys : Array Value) : Meets (Builtin.«zip.__new__» ⟨[.type "zip", .ref l, .ref t], []⟩) (fun _ R s => s.heap.IsList l xs ∧ s.heap.IsTuple t ys ∧ R (.ok (.ret (.ref (m4 s.heap l t).objs.size))) { s with heap := m5 s.heap l t }) :=
  .of_wp fun prog w A R s h => by
    obtain ⟨hp, g, d, tk, os⟩ := s
    obtain ⟨ql, qt, h⟩ := h
    have hsub := sub_zip
    have hL1 : Heap.IsList (Shared.heap ⟨hp, g, d, tk, os⟩) l xs := ql
    have hL2 : Heap.IsTuple (Shared.heap ⟨hp.push { cls := .type "list_iterator", data := .fields #[.ref l, .int 0 0] }, g, d, tk, os⟩) t ys := Heap.IsTuple.push qt _
    wp_walk using wpAny_pyIter_list hL1, wpAny_pyIter_tuple hL2
    exact ⟨_, rfl, h⟩
theorem called {prog : Program} {w : World} {A : Around} {E : Value → Shared → Prop} {s : Shared} {l t : Addr} {xs ys : Array Value} {Q : Value → Shared → Prop} (ql : s.heap.IsList l xs) (qt : s.heap.IsTuple t ys)
    (k : ∀ h', IsZip h' (s.heap.objs.size + 4) (s.heap.objs.size + 2) (s.heap.objs.size + 3) .none → IsPair h' (s.heap.objs.size + 2) (.ref s.heap.objs.size) (.ref (s.heap.objs.size + 1)) → IsPair h' (s.heap.objs.size + 3) .none .none →
      h'.IsListIter s.heap.objs.size l 0 → h'.IsTupleIter (s.heap.objs.size + 1) t 0 → h'.objs.size = s.heap.objs.size + 5 → (∀ c o, s.heap.get? c = some o → h'.get? c = some o) → Q (.ref (s.heap.objs.size + 4)) { s with heap := h' }) :
    wpAny (model prog w) A (call (.type "zip") [.ref l, .ref t]) Q E s := by
  refine callType_new F.called_zip (by decide) (F.typeCall_zip_2 _ _) (F.newCall_zip_2 _ _) (fun obj => F.args_object_init_3 obj _ _) F.entry_zip_new (made l t xs ys) ⟨ql, qt, ?_⟩
  have n1 : (m1 s.heap l).objs.size = s.heap.objs.size + 1 := Heap.size_push ..
  have n2 : (m2 s.heap l t).objs.size = s.heap.objs.size + 2 := by rw [Heap.size_push, n1]
  have n3 : (m3 s.heap l t).objs.size = s.heap.objs.size + 3 := by rw [Heap.size_push, n2]
  have n4 : (m4 s.heap l t).objs.size = s.heap.objs.size + 4 := by rw [Heap.size_push, n3]
  have n5 : (m5 s.heap l t).objs.size = s.heap.objs.size + 5 := by rw [Heap.size_push, n4]
  have up := fun (h : Heap) (o : Obj) (c : Addr) (x : Obj) (e : h.get? c = some x) => Heap.get?_push_of_some o e
  have g5 : (m5 s.heap l t).get? (m4 s.heap l t).objs.size = some _ := Heap.get?_push_size _ rfl
  have g4 : (m5 s.heap l t).get? (m3 s.heap l t).objs.size = some _ := up _ _ _ _ (Heap.get?_push_size _ rfl)
  have g3 : (m5 s.heap l t).get? (m2 s.heap l t).objs.size = some _ := up _ _ _ _ (up _ _ _ _ (Heap.get?_push_size _ rfl))
  have g2 : (m5 s.heap l t).get? (m1 s.heap l).objs.size = some _ := up _ _ _ _ (up _ _ _ _ (up _ _ _ _ (Heap.get?_push_size _ rfl)))
  have g1 : (m5 s.heap l t).get? s.heap.objs.size = some _ := up _ _ _ _ (up _ _ _ _ (up _ _ _ _ (up _ _ _ _ (Heap.get?_push_size _ rfl))))
  show _ ∧ _
  rw [n2, n3, n4] at g5
  rw [n1, n2] at g3
  rw [n3] at g4
  rw [n1] at g2
  rw [n4]
  exact ⟨⟨_, g5, rfl⟩, k _ g5 g3 g4 ⟨_, g1, rfl, rfl⟩ ⟨_, g2, rfl, rfl⟩ n5 fun c o x => up _ _ _ _ (up _ _ _ _ (up _ _ _ _ (up _ _ _ _ (up _ _ _ _ x))))⟩
end Zt
end PySem
namespace L2
open PySem PySem.Spec PyProof.Rows
def Itzt (K : PySem.W.Frag) (a b : Addr) : It :=
  ⟨fun i H => ∃ (xs ys : List V) (x y : V), SqL K H a xs ∧ SqT K H b ys ∧ xs[i]? = some x ∧ ys[i]? = some y,
    fun i H v H' => ∃ p x y, v = .ref p ∧ H p = none ∧ H' = upd H p (.tup [x, y]) ∧ (∀ xs, SqL K H a xs → xs[i]? = some x) ∧ ∀ ys, SqT K H b ys → ys[i]? = some y,
    fun i H => ∃ xs ys : List V, SqL K H a xs ∧ SqT K H b ys ∧ (xs.length ≤ i ∨ ys.length ≤ i)⟩
theorem turn_zipT {P : Program} {w : World} {K : PySem.W.Frag} {elts : List Expr} {kk : Nat} {tpos : Pos} {a b z I O i1 i2 : Addr} (D : ZipApart z I O i1 i2 a b) :
    Turn P w K (.Tuple elts kk tpos) (Itzt K a b) [z, I, O, i1, i2] z (fun i h => IsZip h z I O .none ∧ IsPair h I (.ref i1) (.ref i2) ∧ (∃ x y, IsPair h O x y) ∧ h.IsListIter i1 a i ∧ h.IsTupleIter i2 b i) where
  mem := by simp
  obj := fun i h st c hc => by
    obtain ⟨qz, qI, ⟨x, y, qO⟩, ⟨o1, e1, _, d1⟩, ⟨o2, e2, _, d2⟩⟩ := st
    have e' : c = z ∨ c = I ∨ c = O ∨ c = i1 ∨ c = i2 := by simpa using hc
    rcases e' with rfl | rfl | rfl | rfl | rfl
    · exact ⟨_, qz, fun v q => nomatch q⟩
    · exact ⟨_, qI, fun v q => nomatch q⟩
    · exact ⟨_, qO, fun v q => nomatch q⟩
    · exact ⟨o1, e1, fun v q => by rw [d1] at q; cases q⟩
    · exact ⟨o2, e2, fun v q => by rw [d2] at q; cases q⟩
  keep := fun i h h' st k => by
    obtain ⟨qz, qI, ⟨x, y, qO⟩, h1, o2, e2, r2⟩ := st
    exact ⟨k z (by simp) _ qz, k I (by simp) _ qI, ⟨x, y, k O (by simp) _ qO⟩, h1.at fun o q => k i1 (by simp) o q, o2, k i2 (by simp) _ e2, r2⟩
  item := by
    intro X hP hw hK hc i pins s σ H E II hf st hg
    subst hP hw hK
    obtain ⟨qz, qI, ⟨x0, y0, qO⟩, h1, h2⟩ := st
    obtain ⟨xs, ys, x, y, hqx, hqy, hx, hy⟩ := hg
    obtain ⟨its, rv, p, _⟩ := II.list hqx
    obtain ⟨its2, rv2, p2, _⟩ := II.tuple hqy
    obtain ⟨u, hu, ru⟩ := rv.get hx
    obtain ⟨u2, hu2, ru2⟩ := rv2.get hy
    have zl : z < s.heap.objs.size := Heap.lt_size qz
    refine Zt.nextOne D qz qI qO h1 h2 p.isList p2 (x := u) (y := u2) (by simpa using hu) (by simpa using hu2) fun h' z' O' h1' h2' hT hsz hk => ?_
    refine ⟨_, rfl, wpAny_letOwnedTupleGo_zip (s := { s with heap := h' }) z' fun h'' z'' sb => ?_⟩
    have hT2 : h''.get? s.heap.objs.size = some { cls := .type "tuple", data := .seq #[u, u2] } := (sb.2 _ (Nat.ne_of_gt zl)).trans hT
    have new : ObjOk X.prog X.w (upd H s.heap.objs.size (.tup [x, y])) h'' s.heap.objs.size (.tup [x, y]) := ⟨by show 2 ≤ sizeLine; decide, [u, u2], .cons ru (.cons ru2 .nil), ⟨_, hT2, rfl, _, rfl⟩⟩
    have I1 : Inv X pins σ (upd H s.heap.objs.size (.tup [x, y])) { s with heap := h'' } := II.turnedNew (t' := s.toks) (ch := [z, I, O, i1, i2])
      (fun c o hb q => (sb.2 c (fun q' => hb (by simp [q']))).trans (hk c o (fun q' => hb (by simp [q'])) (fun q' => hb (by simp [q'])) (fun q' => hb (by simp [q'])) (fun q' => hb (by simp [q'])) q)) hf (Nat.le_refl _) new
    refine ⟨.ref s.heap.objs.size, _, I1, rfl, ⟨_, x, y, rfl, II.hok.fresh (Nat.le_refl _), rfl, fun l hl => by rw [II.list_inj hl hqx]; exact hx, fun l hl => ?_⟩, ⟨z'', ?_, ⟨u, u2, ?_⟩, ?_, ?_⟩, fun c hcm => ?_⟩
    · rw [II.tuple_inj hl hqy]; exact hy
    · exact (sb.2 _ D.TIz).trans (hk _ _ D.TIz D.TITO D.TIi1 D.TIi2 qI)
    · exact (sb.2 _ D.TOz).trans O'
    · exact h1'.at fun o q => (sb.2 _ D.i1z).trans q
    · obtain ⟨o2, e2, r2⟩ := h2'
      exact ⟨o2, (sb.2 _ D.i2z).trans e2, r2⟩
    · have hlt : c < s.heap.objs.size := by
        have e' : c = z ∨ c = I ∨ c = O ∨ c = i1 ∨ c = i2 := by simpa using hcm
        rcases e' with q | q | q | q | q
        · rw [q]; exact zl
        · rw [q]; exact Heap.lt_size qI
        · rw [q]; exact Heap.lt_size qO
        · rw [q]; obtain ⟨_, e1, _⟩ := h1; exact Heap.lt_size e1
        · rw [q]; obtain ⟨_, e2, _⟩ := h2; exact Heap.lt_size e2
      rw [upd_ne (Nat.ne_of_lt hlt)]
      exact (hf c hcm).1
  done := by
    intro X hP hw hK hc i pins s σ H E II hf st hg
    subst hP hw hK
    obtain ⟨qz, qI, ⟨x0, y0, qO⟩, h1, h2⟩ := st
    obtain ⟨xs, ys, hqx, hqy, hend⟩ := hg
    obtain ⟨its, rv, p, _⟩ := II.list hqx
    obtain ⟨its2, rv2, p2, _⟩ := II.tuple hqy
    have l1 := rv.length
    have l2 := rv2.length
    have he : its.toArray[i]? = none ∨ its2.toArray[i]? = none := by
      rcases hend with q | q
      · exact .inl (by simp; omega)
      · exact .inr (by simp; omega)
    exact Zt.nextNone (II.ok.hd hc) D qz qI qO h1 h2 p.isList p2 he fun h' hk => ⟨rfl, II.turnedL (t' := s.toks) (ch := [z, I, O, i1, i2])
      (fun c o hb q => hk c o (fun q' => hb (by simp [q'])) (fun q' => hb (by simp [q'])) (fun q' => hb (by simp [q'])) (fun q' => hb (by simp [q'])) q) hf⟩
  self := fun A i s Q E st h => wpAny_pyIter_zip st.1 h
def iZipT (K : PySem.W.Frag) (ta : TA) : TI := fun σ H R => ta σ H fun vs H1 => ∃ a b xs ys, vs = [.ref a, .ref b] ∧ SqL K H1 a xs ∧ SqT K H1 b ys ∧ R (Itzt K a b) H1
theorem pi_zipT {X : Cx} {e e2 : Expr} {ta : TA} {p pos tpos : Pos} {elts : List Expr} {kk : Nat} (hg : Gl X "zip") (hm : X.mg "zip" = none) (ha : PA X [e, e2] ta)
    (hs : starEach [e, e2] X.env = (false, eval e X.env) :: starEach [e2] X.env := by rfl) (hpl : (backTo pos (starEach [e2] X.env)).any (·.1) = false := by rfl) :
    PI X (.Tuple elts kk tpos) (.Call (.Name "zip" p) [e, e2] [] pos) (iZipT X.K ta) := by
  intro pins s σ H R I h
  refine Call_ (ld_blt I hg hm boot_zip5 (PyProof.Rows.callWith_type1 (thn (ha pos pins s σ H _ I h) fun us s1 ⟨vs, H1, I1, r1, q1⟩ => ?_) hs hpl))
  obtain ⟨a, b, xs, ys, ex, hqx, hqy, q⟩ := q1
  subst ex
  cases r1 with
  | cons r rr =>
    cases rr with
    | cons r' rr =>
      cases rr; cases r; cases r'
      obtain ⟨its, rv, p1, _⟩ := I1.list hqx
      obtain ⟨its2, rv2, p2, _⟩ := I1.tuple hqy
      have la : a < s1.heap.objs.size := p1.lt
      have lb : b < s1.heap.objs.size := by obtain ⟨_, e2, _⟩ := id p2; exact Heap.lt_size e2
      refine Zt.called p1.isList p2 fun h' qz qI qO h1 h2 hsz hk => wpAny_pyIter_zip qz ?_
      have I2 : Inv X pins σ H1 { s1 with heap := h' } := I1.kept (t' := s1.toks) hk
      refine ⟨s1.heap.objs.size + 4, [s1.heap.objs.size + 4, s1.heap.objs.size + 2, s1.heap.objs.size + 3, s1.heap.objs.size, s1.heap.objs.size + 1], _, _, H1, rfl, I2, turn_zipT (PySem.W.ktu_apart s1.heap.objs.size a b la lb), ⟨qz, qI, ⟨_, _, qO⟩, h1, h2⟩, fun c hcm => ?_, q⟩
      have hle : s1.heap.objs.size ≤ c := by
        have e' : c = s1.heap.objs.size + 4 ∨ c = s1.heap.objs.size + 2 ∨ c = s1.heap.objs.size + 3 ∨ c = s1.heap.objs.size ∨ c = s1.heap.objs.size + 1 := by simpa using hcm
        rcases e' with z | z | z | z | z
        · rw [z]; exact Nat.le_add_right _ _
        · rw [z]; exact Nat.le_add_right _ _
        · rw [z]; exact Nat.le_add_right _ _
        · rw [z]; exact Nat.le_refl _
        · rw [z]; exact Nat.le_add_right _ _
      exact I1.fpOk hle (I1.hok.fresh hle)
theorem ixT {X : Cx} {K : PySem.W.Frag} (h : X.K = K) : IxR X (rIxT K) := by subst h; exact ix_tup
end L2
namespace L2
open PySem PySem.Spec PyProof.Rows
theorem objOk_there {P : Program} {w : World} {H : Hp} {h : Heap} {a : Addr} {o : HO} (x : ObjOk P w H h a o) : ∃ ob, h.get? a = some ob := by
  cases o with
  | lst xs => obtain ⟨_, _, _, _, e⟩ := x; exact ⟨_, e⟩
  | tup xs => obtain ⟨_, _, _, ob, e, _⟩ := x; exact ⟨ob, e⟩
  | dK kvs => obtain ⟨_, _, _, _, o, _, _, e, _⟩ := x; exact ⟨o, e⟩
  | dT kvs => obtain ⟨_, _, _, _, o, _, _, e, _⟩ := x; exact ⟨o, e⟩
  | set S n => obtain ⟨o, _, _, _, e, _⟩ := x; exact ⟨o, e⟩
  | ins C dx fs => obtain ⟨_, _, _, e, _⟩ := x; exact ⟨_, e⟩
  | own y => exact x
  | xd fs => obtain ⟨_, ⟨o, _, _, e, _⟩, _⟩ := x; exact ⟨o, e⟩
  | rng lo hi => obtain ⟨_, _, _, e⟩ := x; exact ⟨_, e⟩
  | frz ob u => obtain ⟨e, _⟩ := x; exact ⟨_, e⟩
  | tbl ps => exact ⟨_, x⟩
  | met f y => exact ⟨_, x⟩
  | ext φ => obtain ⟨_, e, _⟩ := x; exact e
theorem hok_none {P : Program} {w : World} {H : Hp} {h : Heap} (x : HOk P w H h) {a : Addr} (e : h.get? a = none) : H a = none := by
  cases q : H a with
  | none => rfl
  | some o =>
    obtain ⟨ob, z⟩ := objOk_there (x a o q)
    rw [e] at z; cases z
inductive Chn (h : Heap) (H : Hp) (av : List Addr) : Nat → Value → Prop
  | nil : Chn h H av 0 .none
  | cons {n : Nat} {a : Addr} {o : Obj} {vs : Array Value} {c : Value} : h.get? a = some o → o.data = .fields vs → vs[2]? = some c → H a = none → a ∉ av → Chn h H av n c → Chn h H av (n + 1) (.ref a)
theorem Chn.move {h h' : Heap} {H H' : Hp} {av av' : List Addr} {n : Nat} {c : Value} (x : Chn h H av n c) (k : ∀ a o vs, h.get? a = some o → o.data = .fields vs → H a = none → a ∉ av → h'.get? a = some o ∧ H' a = none ∧ a ∉ av') : Chn h' H' av' n c := by
  induction x with
  | nil => exact .nil
  | cons h1 h2 h3 h4 h5 _ ih =>
    obtain ⟨k1, k2, k3⟩ := k _ _ _ h1 h2 h4 h5
    exact .cons k1 h2 h3 k2 k3 ih
def TrV (h base : Heap) (e : Addr) (cls c fl : Value) : Prop :=
  ∃ oe vs T oT ts, h.get? e = some oe ∧ (oe.cls = cls ∧ vs[2]? = some c) ∧ oe.data = .fields vs ∧ vs[1]? = some (.ref T) ∧ base.get? T = none ∧ T ≠ e ∧ h.get? T = some oT ∧ oT.data = .fields ts ∧ ts[3]? = some fl
def OnV (base : Heap) (l : List Env) (e : Addr) (cls c fl : Value) (h : Heap) : Prop := base.StaysIn h ∧ base.get? e = none ∧ h.FunFrames base l ∧ TrV h base e cls c fl
section
variable {M : Model} {A : Around} {E : Value → Shared → Prop} {s : Shared}
theorem entryV {base : Heap} {env : Env} {outer : List Env} {L e : Addr} {oe : Obj} {vs : Array Value} {hd c : Value} {nx : Bool} {Q : Unit → Shared → Prop} (hfr : A.frames = some (env :: outer)) (hl : s.heap.FunFrames base (env :: outer)) (hf : env.frame = some L)
    (ge : s.heap.get? e = some oe) (st : base.StaysIn s.heap) (ne : base.get? e = none) (de : oe.data = .fields vs) (z1 : 1 < vs.size) (h2 : vs[2]? = some c) (k : ∀ h', OnV base (env :: outer) e oe.cls c (rawInt L) h' → s.heap.UpToSlots h' → Q () { s with heap := h' }) :
    wpAny M A (do let fo ← frameOf env; let pc ← entryPlaceOf L nx; let tb ← EntryCells.newEntry hd fo .none (rawInt L) .none pc; setField (.ref e) 1 tb) Q E s := by
  have nfr : e ∉ (env :: outer).filterMap (·.frame) := fun m => by
    obtain ⟨_, q, hq, nf⟩ := hl.mem m
    rw [ge] at hq; cases hq; exact nf vs de
  refine wpAny_bind (wpAny_frameOf_fun hfr hl hf fun g ⟨_, sg, tg⟩ => wpAny_bind (wpAny_entryPlaceOf fun pc hp => ?_))
  have e1 : g.get? e = some oe := (sg e nfr).trans ge
  have b1 : base.StaysIn g := fun b q hb => (sg b fun m => by rw [(hl.mem m).1] at hb; cases hb).trans (st b q hb)
  have Te : g.objs.size ≠ e := Nat.ne_of_gt (Heap.lt_size e1)
  unfold EntryCells.newEntry newFields
  refine wpAny_bind (wpAny_newObj_type ?_ (hp.sizeOk5 _ _ _ _ _))
  generalize hts : ([hd, Value.ref L, .none, rawInt L, .none] ++ (if pc.isEmpty then List.replicate 6 Value.none else pc)).toArray = ts
  have t3 : ts[3]? = some (rawInt L) := by rw [← hts]; simp
  have e2 : (g.push { cls := .type "traceback", data := .fields ts }).get? e = some oe := Heap.get?_push_of_some _ e1
  refine wpAny_setField e2 de z1 (k _ ?_ ?_)
  · have d3 := Obj.data_mapFields de (·.setIfInBounds 1 (Value.ref g.objs.size))
    refine ⟨fun b q hb => ?_, ne, hl.of_keeps fun b q hb nf => ?_, _, _, g.objs.size, _, ts, Heap.get?_update_self _ e2 (Obj.isFreed_of_fields d3), ⟨Obj.cls_mapFields _ _, ?_⟩, d3, by simp [z1], b1.fresh, Te, (Heap.get?_update_other _ _ (Ne.symm Te)).trans (Heap.get?_push_size _ rfl), rfl, t3⟩
    · rw [Heap.get?_update_other _ _ (fun z => by rw [← z, ne] at hb; cases hb)]
      exact Heap.get?_push_of_some _ (b1 b q hb)
    · obtain ⟨sl, hs⟩ := tg b q hb
      refine ⟨{ q with slots := sl }, ?_, rfl⟩
      rw [Heap.get?_update_other _ _ (fun z => by rw [← z, ge] at hb; cases hb; exact nf vs de)]
      exact Heap.get?_push_of_some _ hs
    · rw [Array.getElem?_setIfInBounds_ne (by decide)]; exact h2
  · intro b q hb nf
    obtain ⟨sl, hs⟩ := tg b q hb
    refine ⟨sl, ?_⟩
    rw [Heap.get?_update_other _ _ (fun z => by rw [← z, ge] at hb; cases hb; exact nf vs de)]
    exact Heap.get?_push_of_some _ hs
theorem note_first {base : Heap} {env : Env} {outer : List Env} {L e : Addr} {oe : Obj} {vs : Array Value} {c : Value} {Q : Unit → Shared → Prop} (hfr : A.frames = some (env :: outer)) (hf : env.frame = some L) (hl : s.heap.FunFrames base (env :: outer)) (ge : s.heap.get? e = some oe) (st : base.StaysIn s.heap) (ne : base.get? e = none) (de : oe.data = .fields vs) (h1 : vs[1]? = some .none) (h2 : vs[2]? = some c)
    (k : ∀ h', OnV base (env :: outer) e oe.cls c (rawInt L) h' → s.heap.UpToSlots h' → Q () { s with heap := h' }) : wpAny M A (noteFrame (.ref e) env) Q E s := by
  unfold noteFrame
  simp only [hf]
  refine wpAny_bind (wpAny_field ge de h1 ?_)
  rw [if_neg (by decide)]
  exact entryV hfr hl hf ge st ne de (Array.getElem?_eq_some_iff.mp h1).1 h2 k
theorem note_any {base : Heap} {env : Env} {outer : List Env} {L e : Addr} {cls c fl : Value} {Q : Unit → Shared → Prop} (hfr : A.frames = some (env :: outer)) (hf : env.frame = some L) (h : OnV base (env :: outer) e cls c fl s.heap)
    (k : ∀ h', OnV base (env :: outer) e cls c (rawInt L) h' → s.heap.UpToSlots h' → Q () { s with heap := h' }) : wpAny M A (noteFrame (.ref e) env) Q E s := by
  obtain ⟨st, ne, hl, oe, vs, T, oT, ts, ge, ⟨hcls, h2⟩, de, h1, nT, Te, gT, dT, h3⟩ := id h
  subst hcls
  unfold noteFrame
  simp only [hf]
  refine wpAny_bind (wpAny_field ge de h1 ?_)
  rw [if_pos (by simp)]
  refine wpAny_bind (wpAny_field gT dT h3 ?_)
  by_cases q : fl = rawInt L
  · subst q
    rw [if_pos (by simp)]
    exact wpAny_pure (k s.heap h (.refl _))
  · rw [if_neg (by simpa using q)]
    refine wpAny_bind (wpAny_setField gT dT (Array.getElem?_eq_some_iff.mp h3).1 ?_)
    have oth : ∀ b, b ≠ T → (s.heap.update T (Obj.mapFields (·.setIfInBounds 3 Value.none))).get? b = s.heap.get? b := fun b hb => Heap.get?_update_other _ _ (Ne.symm hb)
    have nrec : ∀ b o, s.heap.get? b = some o → (∀ vs, o.data ≠ .fields vs) → b ≠ T := fun b o hb hnf z => by
      rw [z, gT] at hb; cases hb; exact hnf ts dT
    refine entryV hfr (hl.of_keeps fun b o hb hnf => ⟨o, (oth b (nrec b o hb hnf)).trans hb, rfl⟩) hf ((oth e (Ne.symm Te)).trans ge)
      (fun b o hbo => (oth b fun z => by rw [z, nT] at hbo; cases hbo).trans (st b o hbo)) ne de (Array.getElem?_eq_some_iff.mp h1).1 h2 fun h' x up => k h' x fun b o hb hnf => up b o ((oth b (nrec b o hb hnf)).trans hb) hnf
theorem flight_set {base : Heap} {l : List Env} {e : Addr} {cls c fl : Value} {fo : Option Addr} {Q : Unit → Shared → Prop} (h : OnV base l e cls c fl s.heap) (k : ∀ h', OnV base l e cls c (fo.elim Value.none fun f => rawInt f) h' → s.heap.UpToSlots h' → Q () { s with heap := h' }) : wpAny M A (setFlight (.ref e) fo) Q E s := by
  obtain ⟨st, ne, hl, oe, vs, T, oT, ts, ge, hc, de, h1, nT, Te, gT, dT, h3⟩ := h
  have z3 : 3 < ts.size := (Array.getElem?_eq_some_iff.mp h3).1
  have oth : ∀ b, b ≠ T → (s.heap.update T (Obj.mapFields (·.setIfInBounds 3 (fo.elim Value.none fun f => rawInt f)))).get? b = s.heap.get? b := fun b hb => Heap.get?_update_other _ _ (Ne.symm hb)
  have nrec : ∀ b o, s.heap.get? b = some o → (∀ vs, o.data ≠ .fields vs) → b ≠ T := fun b o hb hnf z => by
    rw [z, gT] at hb; cases hb; exact hnf ts dT
  unfold setFlight
  refine wpAny_bind (wpAny_field ge de h1 ?_)
  rw [if_pos (by simp)]
  refine wpAny_setField gT dT z3 (k _ ⟨fun b o hb => (oth b fun z => by rw [z, nT] at hb; cases hb).trans (st b o hb), ne, hl.of_keeps fun b o hb nf => ⟨o, (oth b (nrec b o hb nf)).trans hb, rfl⟩, oe, vs, T, _, _, (oth e (Ne.symm Te)).trans ge, hc, de, h1, nT, Te, Heap.get?_update_self _ gT (Obj.isFreed_of_fields (Obj.data_mapFields dT _)), Obj.data_mapFields dT _, by simp [z3]⟩ fun b o hb nf => ⟨o.slots, (oth b (nrec b o hb nf)).trans hb⟩)
theorem leave_any {base : Heap} {env : Env} {outer : List Env} {L e : Addr} {cls c fl : Value} {Q : Unit → Shared → Prop} (hfr : A.frames = some (env :: outer)) (hf : env.frame = some L) (h : OnV base (env :: outer) e cls c fl s.heap)
    (k : ∀ h', OnV base outer e cls c .none h' → s.heap.UpToSlots h' → Q () { s with heap := h' }) : wpAny M A (leaving env (.ref e)) Q E s := by
  unfold leaving
  refine wpAny_bind (note_any hfr hf h fun h1 hh up => ?_)
  refine flight_set (s := { s with heap := h1 }) hh fun h2 fl2 up2 => ?_
  obtain ⟨k1, k2, ⟨_, _, k3⟩, k4⟩ := fl2
  exact k h2 ⟨k1, k2, k3, k4⟩ (up.trans up2)
theorem noteFrame_congr {e : Value} {env env' : Env} (h : env.frame = env'.frame) : noteFrame e env = noteFrame e env' := by
  unfold noteFrame PySem.frameOf
  rw [h]
end
def TrF (h : Heap) (x T : Addr) (cls c fl : Value) : Prop := ∃ oe vs oT ts, h.get? x = some oe ∧ (oe.cls = cls ∧ vs[2]? = some c) ∧ oe.data = .fields vs ∧ vs[1]? = some (.ref T) ∧ T ≠ x ∧ h.get? T = some oT ∧ oT.data = .fields ts ∧ ts[3]? = some fl
def CX1 (P : Program) (w : World) : CXT := fun outer H s E e s' => ∃ (x T : Addr) (cls c : Value) (n : Nat) (H' : Hp), e = .ref x ∧ s'.os = s.os ∧ AllBare s'.gens ∧ Un (frs outer) [] H H' s.heap s'.heap ∧ HOk P w H' s'.heap ∧
  (s.heap.get? x = none ∧ s.heap.get? T = none ∧ H' x = none ∧ H' T = none) ∧ (TrF s'.heap x T cls c .none ∧ Chn s'.heap H' [x, T] n c) ∧ E cls none H'
section
variable {X : Cx} {pins : List (Addr × Obj)} {σ : St} {H : Hp} {s : Shared} {h' : Heap}
theorem Inv.none0 (I : Inv X pins σ H s) (hex : X.ex = []) {b : Addr} (e : s.heap.get? b = none) : X.s_0.heap.get? b = none := by
  cases q : X.s_0.heap.get? b with
  | none => rfl
  | some o =>
    obtain ⟨o', z⟩ := I.base.there b o q (by rw [hex]; simp)
    rw [e] at z; cases z
theorem Inv.apart (I : Inv X pins σ H s) (hex : X.ex = []) {b : Addr} (e : s.heap.get? b = none) : X.s_0.heap.get? b = none ∧ b ≠ X.env.locals ∧ (∀ x c, X.env.cells.lookup x = some c → c ≠ b) ∧ ∀ p ∈ X.pn ++ pins, p.1 ≠ b := by
  refine ⟨I.none0 hex e, fun z => ?_, fun x c q z => ?_, fun p hp z => ?_⟩
  · obtain ⟨m, ⟨o, _, _, ho, _⟩, _⟩ := I.loc
    rw [← z, e] at ho; cases ho
  · obtain ⟨v, o, ho, _⟩ := I.cell x c q
    rw [z, e] at ho; cases ho
  · have := (I.pin p hp).1
    rw [z, e] at this; cases this
theorem un_left (I : Inv X pins σ H s) (hex : X.ex = []) (hs : X.stack = X.env :: X.outer) (hfr : X.env.frame = some X.env.locals) (hd : List Addr) (hh : ∀ b ∈ hd, X.s_0.heap.get? b = none ∧ H b = none)
    (keep : ∀ b o, s.heap.get? b = some o → b ∉ frs X.stack → b ∉ hd → h'.get? b = some o) (slot : ∀ b o, s.heap.get? b = some o → b ∈ frs X.stack → ∃ sl, h'.get? b = some { o with slots := sl }) :
    Un X.fs [] X.H_0 H X.s_0.heap h' ∧ HOk X.prog X.w H h' := by
  have noex : ∀ b : Addr, b ∉ X.ex := fun b => by rw [hex]; simp
  have est : frs X.stack = X.env.locals :: X.fs := by rw [hs]; unfold frs; rw [List.filterMap_cons, hfr]; rfl
  have hL : X.s_0.heap.get? X.env.locals = none := Heap.get?_none_of_le I.ok.above
  have nst : ∀ b o, X.s_0.heap.get? b = some o → b ∉ X.fs → b ∉ frs X.stack := fun b o e hb hm => by
    rw [est] at hm
    rcases List.mem_cons.mp hm with z | z
    · rw [z, hL] at e; cases e
    · exact hb z
  have nhd : ∀ b o, X.s_0.heap.get? b = some o → b ∉ hd := fun b o e hm => by rw [(hh b hm).1] at e; cases e
  refine ⟨⟨fun b o e n hb _ => keep b o (I.base.keep b o e n hb (noex b)) (nst b o e hb) (nhd b o e), fun b o e n hb _ => ?_, fun b o e n _ => I.base.free b o e n (noex b), fun b o e _ => ?_, I.base.tups, I.base.frzs, I.base.tbls⟩, fun a o e => ?_⟩
  · obtain ⟨sl, q⟩ := I.base.slot b o e n hb (noex b)
    obtain ⟨sl', q'⟩ := slot b _ q (by rw [est]; exact List.mem_cons_of_mem _ hb)
    exact ⟨sl', q'⟩
  · obtain ⟨o', q⟩ := I.base.there b o e (noex b)
    by_cases hm : b ∈ frs X.stack
    · obtain ⟨sl, z⟩ := slot b _ q hm
      exact ⟨_, z⟩
    · exact ⟨o', keep b o' q hm (nhd b o e)⟩
  · have tracked : ∀ b u, H b = some u → b ∉ frs X.stack ∧ b ∉ hd := fun b u q => ⟨fun hm => (by rw [I.stkFree b hm] at q; cases q), fun hm => (by rw [(hh b hm).2] at q; cases q)⟩
    refine (I.hok a o e).stay (fun b u hb q => ?_) (fun _ q => q) fun _ _ q => q
    rcases hb with rfl | hb
    · exact keep _ _ q (tracked _ _ e).1 (tracked _ _ e).2
    · exact keep _ _ q (tracked _ _ hb).1 (tracked _ _ hb).2
theorem mem_frs {l : List Env} {env : Env} (he : env ∈ l) {a : Addr} (ha : env.frame = some a) : a ∈ frs l := List.mem_filterMap.mpr ⟨env, he, ha⟩
theorem two_cases {P : Addr → Prop} {x T : Addr} (h1 : P x) (h2 : P T) : ∀ b ∈ [x, T], P b := fun b hb => by
  rcases List.mem_cons.mp hb with rfl | hb
  · exact h1
  · rcases List.mem_cons.mp hb with rfl | hb
    · exact h2
    · cases hb
theorem Inv.moved (I : Inv X pins σ H s) (ch : List Addr) (hch : ∀ b ∈ ch, X.s_0.heap.get? b = none ∧ b ≠ X.env.locals ∧ (∀ x c, X.env.cells.lookup x = some c → c ≠ b) ∧ (∀ p ∈ X.pn ++ pins, p.1 ≠ b) ∧ H b = none)
    (keep : ∀ b o, s.heap.get? b = some o → b ∉ frs X.stack → b ∉ ch → h'.get? b = some o) (slot : ∀ b o, s.heap.get? b = some o → b ∈ frs X.stack → ∃ sl, h'.get? b = some { o with slots := sl }) : Inv X pins σ H { s with heap := h' } := by
  have neL : ∀ b o, X.s_0.heap.get? b = some o → b ≠ X.env.locals := fun b o e => Nat.ne_of_lt (Nat.lt_of_lt_of_le (Heap.lt_size e) I.ok.above)
  have neC : ∀ b o, X.s_0.heap.get? b = some o → b ∉ ch := fun b o e hb => by rw [(hch b hb).1] at e; cases e
  have nst : ∀ b o, X.s_0.heap.get? b = some o → b ∉ X.fs → b ∉ frs X.stack := fun b o e hb hm => (List.mem_cons.mp (I.stkSub b hm)).elim (neL b o e) hb
  have any : ∀ b o, s.heap.get? b = some o → b ∉ ch → ∃ sl, h'.get? b = some { o with slots := sl } := fun b o e hb => by
    by_cases hm : b ∈ frs X.stack
    · exact slot b o e hm
    · exact ⟨o.slots, keep b o e hm hb⟩
  have cellK : ∀ x c, X.env.cells.lookup x = some c → ∀ v, s.heap.IsCell c v → h'.IsCell c v := fun x c e v ⟨o, ho, hd⟩ => by
    obtain ⟨sl, q⟩ := any c o ho fun z => (hch c z).2.2.1 x c e rfl
    exact ⟨_, q, hd⟩
  have tracked : ∀ b u, H b = some u → b ∉ frs X.stack ∧ b ∉ ch := fun b u q => ⟨fun hm => (by rw [I.stkFree b hm] at q; cases q), fun hm => (by rw [(hch b hm).2.2.2.2] at q; cases q)⟩
  refine ⟨I.ok, I.os, I.bare, ⟨fun b o e n hb hx => ?_, fun b o e n hb hx => ?_, fun b o e n hx => I.base.free b o e n hx, fun b o e hx => ?_, I.base.tups, I.base.frzs, I.base.tbls⟩, ?_, fun x c e => ?_, I.free, I.freeC, fun p hp => ?_, fun a o e => ?_, I.len⟩
  · exact keep b o (I.base.keep b o e n hb hx) (nst b o e hb) (neC b o e)
  · obtain ⟨sl, e1⟩ := I.base.slot b o e n hb hx
    obtain ⟨sl', e2⟩ := any b _ e1 (neC b o e)
    exact ⟨sl', e2⟩
  · obtain ⟨o', e1⟩ := I.base.there b o e hx
    obtain ⟨sl, e2⟩ := any b o' e1 (neC b o e)
    exact ⟨_, e2⟩
  · obtain ⟨m, ⟨o, es, ep, ho, r⟩, hl⟩ := I.loc
    obtain ⟨sl, q⟩ := any _ o ho fun z => (hch _ z).2.1 rfl
    refine ⟨m, ⟨_, es, ep, q, r⟩, fun i x v e1 e2 e3 => ?_⟩
    obtain ⟨u, rr, l⟩ := hl i x v e1 e2 e3
    refine ⟨u, rr, ?_⟩
    rcases l with l | ⟨k, c, e, z⟩
    · exact .inl l
    · exact .inr ⟨k, c, e, cellK x c e _ z⟩
  · obtain ⟨v, z⟩ := I.cell x c e
    exact ⟨v, cellK x c e v z⟩
  · obtain ⟨e, n, ne, nf, d⟩ := I.pin p hp
    exact ⟨keep p.1 p.2 e (fun hm => (List.mem_cons.mp (I.stkSub _ hm)).elim ne nf) (fun z => (hch p.1 z).2.2.2.1 p hp rfl), n, ne, nf, d⟩
  · refine (I.hok a o e).stay (fun b u hb q => ?_) (fun _ q => q) fun _ _ q => q
    rcases hb with rfl | hb
    · exact keep _ _ q (tracked _ _ e).1 (tracked _ _ e).2
    · exact keep _ _ q (tracked _ _ hb).1 (tracked _ _ hb).2
theorem air_base (I : Inv X pins σ H s) {x T : Addr} {cls c fl : Value} (ht : TrF s.heap x T cls c fl) : OnV (PySem.W.hideAll s.heap (x :: T :: frs X.stack)) X.stack x cls c fl s.heap := by
  obtain ⟨oe, vs, oT, ts, g1, g2, g3, g4, g5, g6, g7, g8⟩ := ht
  exact ⟨fun b o q => PySem.W.of_hideAll _ q, PySem.W.hideAll_none _ (by simp), PySem.W.funFrames_hide I.stack (fun env henv a ha => List.mem_cons_of_mem _ (List.mem_cons_of_mem _ (mem_frs henv ha))), oe, vs, T, oT, ts, g1, g2, g3, g4, PySem.W.hideAll_none _ (by simp), g5, g6, g7, g8⟩
theorem air_slot (I : Inv X pins σ H s) (up : s.heap.UpToSlots h') : ∀ b o, s.heap.get? b = some o → b ∈ frs X.stack → (∀ vs, o.data ≠ .fields vs) ∧ ∃ sl, h'.get? b = some { o with slots := sl } := fun b o q hm => by
  obtain ⟨_, o2, q2, nf⟩ := I.stack.mem hm
  rw [q] at q2; cases q2
  exact ⟨nf, up b o q nf⟩
theorem air_keep {x T : Addr} (k1 : (PySem.W.hideAll s.heap (x :: T :: frs X.stack)).StaysIn h') : ∀ b o, s.heap.get? b = some o → b ∉ frs X.stack → b ∉ [x, T] → h'.get? b = some o := fun b o q nb nd => k1 b o (PySem.W.hideAll_get _ q fun hm => by
  rcases List.mem_cons.mp hm with z | hm
  · exact nd (by rw [z]; simp)
  · rcases List.mem_cons.mp hm with z | hm
    · exact nd (by rw [z]; simp)
    · exact nb hm)
theorem air_entry (I : Inv X pins σ H s) {x T T' : Addr} {oT' : Obj} {ts' : Array Value} (up : s.heap.UpToSlots h') (t5 : (PySem.W.hideAll s.heap (x :: T :: frs X.stack)).get? T' = none) (t6 : T' ≠ x) (t7 : h'.get? T' = some oT') (t8 : oT'.data = .fields ts') : s.heap.get? T' = none ∨ T' = T := by
  cases q : s.heap.get? T' with
  | none => exact .inl rfl
  | some o =>
    by_cases hm : T' ∈ x :: T :: frs X.stack
    · rcases List.mem_cons.mp hm with z | hm
      · exact absurd z t6
      · rcases List.mem_cons.mp hm with z | hm
        · exact .inr z
        · obtain ⟨nf, sl, z⟩ := air_slot I up T' o q hm
          rw [t7] at z
          cases z
          exact absurd t8 (nf ts')
    · have := PySem.W.hideAll_get _ q hm
      rw [t5] at this; cases this
theorem air_chain (I : Inv X pins σ H s) {x T T' : Addr} {n : Nat} {c : Value} (k1 : (PySem.W.hideAll s.heap (x :: T :: frs X.stack)).StaysIn h') (e : s.heap.get? T' = none ∨ T' = T) (q : Chn s.heap H [x, T] n c) : Chn h' H [x, T'] n c :=
  q.move fun a o vs g1 g2 g3 g4 => ⟨air_keep k1 a o g1 (fun hm => by obtain ⟨_, o2, q2, nf⟩ := I.stack.mem hm; rw [g1] at q2; cases q2; exact nf vs g2) g4, g3, fun hm => by
    rcases List.mem_cons.mp hm with z | hm
    · exact g4 (by rw [z]; simp)
    · rcases List.mem_cons.mp hm with z | hm
      · rcases e with e | e
        · rw [← z, g1] at e; cases e
        · exact g4 (by rw [z, e]; simp)
      · cases hm⟩
end
def AirTo (X : Cx) (E : XK) : Prop := ∀ (pins : List (Addr × Obj)) (σ : St) (H : Hp) (s : Shared) (x T : Addr) (cls c fl : Value) (n : Nat), Inv X pins σ H s → (X.s_0.heap.get? x = none ∧ X.s_0.heap.get? T = none ∧ H x = none ∧ H T = none) → TrF s.heap x T cls c fl → Chn s.heap H [x, T] n c → E cls none H → X.xe (.ref x) s
def RaiseTo (X : Cx) (E : XK) : Prop := ∀ (pins : List (Addr × Obj)) (σ : St) (H : Hp) (s : Shared) (h1 : Heap) (e : Addr) (oe : Obj) (vs : Array Value) (c : Value) (n : Nat), Inv X pins σ H s → (∀ b o, s.heap.get? b = some o → h1.get? b = some o) → s.heap.get? e = none → h1.get? e = some oe → oe.data = .fields vs → vs[1]? = some .none → vs[2]? = some c → Chn s.heap H [] n c → E oe.cls none H → X.xe (.ref e) { s with heap := h1 }
abbrev cxP (P : Program) (w : World) (K : PySem.W.Frag) (mg : Str → Option Value) (base : Heap) (N : List Str) (qual : Str) (scope : Scope) (f : Addr) (cd : Value) (A : Around) (outer : List Env) (s0 : Shared) (H0 : Hp) (E : XK) (cb : Bool) (ps : List (Addr × Obj)) : Cx := { cxOf (CX1 P w) P w K mg base N qual scope f cd A outer s0 H0 E with calm := cb, pn := ps }
section
variable {P : Program} {w : World} {K : PySem.W.Frag} {mg : Str → Option Value} {base : Heap} {N : List Str} {qual : Str} {scope : Scope} {f : Addr} {cd : Value} {A : Around} {outer : List Env} {s0 : Shared} {H0 : Hp} {E : XK} {cb : Bool} {ps : List (Addr × Obj)}
theorem airP : AirTo (cxP P w K mg base N qual scope f cd A outer s0 H0 E cb ps) E := by
  intro pins σ H s x T cls c fl n I hh ht hq he
  refine leave_any I.ok.frames rfl (air_base I ht) fun h' fl up => ?_
  obtain ⟨k1, k2, k3, oe', vs', T', oT', ts', t1, t2, t3, t4, t5, t6, t7, t8, t9⟩ := fl
  have hd := two_cases (P := fun b => s0.heap.get? b = none ∧ H b = none) ⟨hh.1, hh.2.2.1⟩ ⟨hh.2.1, hh.2.2.2⟩
  obtain ⟨un', hok'⟩ := un_left (h' := h') I rfl rfl rfl [x, T] hd (air_keep k1) (fun b o q hm => (air_slot I up b o q hm).2)
  have ent := air_entry I up t5 t6 t7 t8
  have hT' : s0.heap.get? T' = none ∧ H T' = none := by
    rcases id ent with q | rfl
    · exact ⟨I.none0 rfl q, hok_none I.hok q⟩
    · exact hd T' (by simp)
  exact ⟨x, T', cls, c, n, H, rfl, I.os, I.bare, un', hok', ⟨hh.1, hT'.1, hh.2.2.1, hT'.2⟩, ⟨⟨oe', vs', oT', ts', t1, t2, t3, t4, t6, t7, t8, t9⟩, air_chain I k1 ent hq⟩, he⟩
theorem passesP : Passes (CX1 P w) (cxP P w K mg base N qual scope f cd A outer s0 H0 E cb ps) E := by
  intro pins σ H s e s' I hx
  obtain ⟨x, T, cls, c, n, H', rfl, hos, hbare, un, hok, ⟨hx0, hT0, hxn, hTn⟩, ⟨ht, hq⟩, he⟩ := hx
  have I1 : Inv (cxP P w K mg base N qual scope f cd A outer s0 H0 E cb ps) pins σ H' s' := I.call' (ch := []) hos un hok hbare (fun b hb => absurd hb (by simp))
  exact airP pins σ H' s' x T cls c .none n I1 ⟨I.none0 rfl hx0, I.none0 rfl hT0, hxn, hTn⟩ ht hq he
theorem raiseP : RaiseTo (cxP P w K mg base N qual scope f cd A outer s0 H0 E cb ps) E := by
  intro pins σ H s h1 e oe vs c n I kp ne ge de f1 f2 hq he
  have hff := I.stack
  show wpAny _ _ (leaving _ (.ref e)) _ _ _
  unfold leaving
  have nh : (PySem.W.hideAll s.heap (frs (cxP P w K mg base N qual scope f cd A outer s0 H0 E cb ps).stack)).get? e = none := by
    cases q : (PySem.W.hideAll s.heap (frs (cxP P w K mg base N qual scope f cd A outer s0 H0 E cb ps).stack)).get? e with
    | none => rfl
    | some o => rw [PySem.W.of_hideAll _ q] at ne; cases ne
  refine wpAny_bind (note_first (s := { s with heap := h1 }) (base := PySem.W.hideAll s.heap (frs (cxP P w K mg base N qual scope f cd A outer s0 H0 E cb ps).stack)) I.ok.frames rfl ((PySem.W.funFrames_hide hff (fun env henv a ha => mem_frs henv ha)).of_keeps fun b o q nf => ⟨o, kp b o q, rfl⟩) ge (fun b o q => kp b o (PySem.W.of_hideAll _ q)) nh de f1 f2 fun h2 o2 up1 => ?_)
  refine flight_set (s := { s with heap := h2 }) o2 fun h' fl up2 => ?_
  obtain ⟨k1, k2, k3, oe', vs', T', oT', ts', t1, t2, t3, t4, t5, t6, t7, t8, t9⟩ := fl
  have slot : ∀ b o, s.heap.get? b = some o → b ∈ frs (cxP P w K mg base N qual scope f cd A outer s0 H0 E cb ps).stack → (∀ vs, o.data ≠ .fields vs) ∧ ∃ sl, h'.get? b = some { o with slots := sl } := fun b o q hm => by
    obtain ⟨_, o2, q2, nf⟩ := hff.mem hm
    rw [q] at q2; cases q2
    exact ⟨nf, (up1.trans up2) b o (kp b o q) nf⟩
  have keep : ∀ b o, s.heap.get? b = some o → b ∉ frs (cxP P w K mg base N qual scope f cd A outer s0 H0 E cb ps).stack → h'.get? b = some o := fun b o q nb => k1 b o (PySem.W.hideAll_get _ q nb)
  obtain ⟨un', hok'⟩ := un_left (h' := h') I rfl rfl rfl [] (fun b hb => absurd hb (by simp)) (fun b o q nb _ => keep b o q nb) (fun b o q hm => (slot b o q hm).2)
  have new : s.heap.get? T' = none := by
    cases q : s.heap.get? T' with
    | none => rfl
    | some o =>
      by_cases hm : T' ∈ frs (cxP P w K mg base N qual scope f cd A outer s0 H0 E cb ps).stack
      · obtain ⟨nf, sl, z⟩ := slot T' o q hm
        rw [t7] at z
        cases z
        exact absurd t8 (nf ts')
      · have := PySem.W.hideAll_get _ q hm
        rw [t5] at this; cases this
  exact ⟨e, T', oe.cls, c, n, H, rfl, I.os, I.bare, un', hok', ⟨I.none0 rfl ne, I.none0 rfl new, hok_none I.hok ne, hok_none I.hok new⟩, ⟨⟨oe', vs', oT', ts', t1, t2, t3, t4, t6, t7, t8, t9⟩, hq.move fun a o vs g1 g2 g3 g4 => ⟨keep a o g1 (fun hm => by obtain ⟨_, o2, q2, nf⟩ := hff.mem hm; rw [g1] at q2; cases q2; exact nf vs g2), g3, fun hm => by
    rcases List.mem_cons.mp hm with z | hm
    · rw [← z, g1] at ne; cases ne
    · rcases List.mem_cons.mp hm with z | hm
      · rw [← z, g1] at new; cases new
      · cases hm⟩⟩, he⟩
end
section
variable {P : Program} {w : World} {K : PySem.W.Frag} {mg : Str → Option Value} {base : Heap} {N : List Str} {qual : Str} {scope : Scope} {f : Addr} {cd : Value} {A : Around} {outer : List Env} {s0 : Shared} {H0 : Hp} {E : XK}
theorem air1 : AirTo (cxOf (CX1 P w) P w K mg base N qual scope f cd A outer s0 H0 E) E := airP (cb := true) (ps := [])
theorem passes1 : Passes (CX1 P w) (cxOf (CX1 P w) P w K mg base N qual scope f cd A outer s0 H0 E) E := passesP (cb := true) (ps := [])
theorem raise1 : RaiseTo (cxOf (CX1 P w) P w K mg base N qual scope f cd A outer s0 H0 E) E := raiseP (cb := true) (ps := [])
end
def EXB : List Value := [.type "Exception", .type "BaseException", .type "object"]
def ExcK (K : PySem.W.Frag) (C : Addr) : Prop := PySem.W.excIn K C EXB "Exception.__new__" = true
theorem ExcK.obj {K : PySem.W.Frag} {h : Heap} {C : Addr} (X : K.In h) (q : ExcK K C) : ∃ bm N nm qn bs hdct sn sub ab col dd k0 k1 k2 k3 k5 mN, h.get? C = some (excClassObj nm qn C N bs bm hdct sn sub ab col dd k0 k1 k2 k3 k5 "Exception.__new__") ∧ h.Ns N mN ∧ mN "__init__" = none ∧ OwnTail h EXB bm := by
  unfold ExcK PySem.W.excIn at q
  split at q
  · rename_i dd cd sl ho
    split at q
    · rename_i C' bm k0 k1 k2 k3 n k5 hm hs
      simp only [Bool.and_eq_true, beq_iff_eq, Bool.not_eq_true'] at q
      obtain ⟨⟨⟨⟨⟨rfl, rfl⟩, hdel⟩, ht⟩, hok⟩, hni⟩ := q
      obtain ⟨nm, bs, mro, ns, qn, hd, sn, sub, ab, col, del⟩ := cd
      dsimp only at hm hdel hok hni
      subst hm hdel
      have hsl : sl = #[k0, k1, k2, k3, some (.builtin "Exception.__new__"), k5] := by
        obtain ⟨l⟩ := sl
        simp only at hs
        rw [hs]
      subst hsl
      exact ⟨bm, ns, nm, qn, bs, hd, sn, sub, ab, col, dd, k0, k1, k2, k3, k5, _, X _ _ ho, .of_isNs (PySem.W.isNs_of_in X hok), PySem.W.nsMap_none_of_in X hok hni, PySem.W.tail_of_in X ht⟩
    · cases q
  · cases q
def tRaise (E : XK) (C : Addr) : TS := fun _ _ H => E (.ref C) none H
theorem ps_raise {X : Cx} {x : Str} {C : Addr} {E : XK} {np cpos pos : Pos} (hc : X.calm = true) (hg : Gl X x) (hm : X.mg x = some (.ref C)) (hC : ExcK X.K C) (hr : RaiseTo X E) (hd : (x == ("__debug__" : Str)) = false := by decide) :
    PS X (.Raise (some (.Call (.Name x np) [] [] cpos)) none pos) (tRaise E C) := by
  intro pins s σ H D I h
  obtain ⟨bm, N, nm, qn, bs, hdct, sn, sub, ab, col, dd, k0, k1, k2, k3, k5, mN, g1, g2, g3, g4⟩ := hC.obj I.kIn
  exact wpAny_Raise_call_subT (C := C) (nm := nm) (q := qn) (N := N) (bs := bs) (bm := bm) (hdct := hdct) (sn := sn) (sub := sub) (ab := ab) (col := col) (dd := dd) (k0 := k0) (k1 := k1) (k2 := k2) (k3 := k3) (k5 := k5)
    F.excBase_Exception (mN := mN) (g4.hasType F.excBase_Exception.hasBase) (I.ok.hd hc) rfl g3 (ld_glob I hg hm ⟨rfl, evalArgs_empty ⟨rfl, Nat.zero_le _, g1, g2, g4, fun h' e hx => by
      obtain ⟨t, ht, _⟩ := hx.there
      exact hr pins σ H s h' e _ _ .none 0 I hx.keeps hx.new ht rfl rfl rfl .nil h⟩⟩ hd)
theorem Fun.okE {P : Program} {w : World} {K : PySem.W.Frag} {mg : Str → Option Value} {base : Heap} {x qual : Str} {st : Stmt} {f : Addr} {fd : FuncData} {N ps : List Str} {k : Nat} {sp : Sp} (F : Fun K x qual st f fd) (S : FnScope N ps (defScope st)) (len : ∀ vs H Q E, sp vs H Q E → vs.length = ps.length)
    (hbody : ∀ (cdv : Value) (A : Around) (outer : List Env) (s : Shared) (H : Hp) (vs : List V) (Q : VK) (E : XK), Room k (A.deeper (envOfC qual (defScope st) s.heap.objs.size f cdv)) → sp vs H Q E →
      ∃ t, PSs (cxOf (CX1 P w) P w K mg base N qual (defScope st) f cdv A outer s H E) (defBody st) t ∧ t { nx := fun _ H' => Q .non H', rt := Q } (start N vs) H) : FnOk P w K mg base (CX1 P w) (k + 1) f fd ps sp := by
  obtain ⟨oc, od, kV, doc, pm, an, cdv, ct, osl, rfl, lk, hcd⟩ := F.ex
  exact fn_of lk hcd S len fun A outer s H vs Q E hr hsp => hbody cdv A outer s H vs Q E hr hsp
end L2
namespace L2
open PySem PySem.Spec PyProof.Rows
section
variable {X : Cx} {pins : List (Addr × Obj)} {σ : St} {H : Hp} {s : Shared}
theorem pass_on {α : Type} {M : Model} {A : Around} {E : Value → Shared → Prop} {what : String} {s : Shared} {x T : Addr} {oe oT : Obj} {vs ts : Array Value} {cenv : Env} {Q : α → Shared → Prop} (g1 : s.heap.get? x = some oe) (g3 : oe.data = .fields vs) (g4 : vs[1]? = some (.ref T)) (g7 : s.heap.get? T = some oT) (g8 : oT.data = .fields ts) (h3 : 3 < ts.size)
    (k : E (.ref x) { s with heap := s.heap.update T (Obj.mapFields (·.setIfInBounds 3 (cenv.frame.elim Value.none fun f => rawInt f))) }) : wpAny M A (PySem.passOn what (.ref x) cenv) Q E s := by
  unfold PySem.passOn
  refine wpAny_bind (wpAny_field g1 g3 g4 ?_)
  rw [if_neg (by simp)]
  unfold setFlight
  refine wpAny_bind (wpAny_bind (wpAny_field g1 g3 g4 ?_))
  rw [if_pos (by simp)]
  exact wpAny_setField g7 g8 h3 (wpAny_throw k)
end
section
variable {X : Cx}
theorem lc_coreE {E : XK} {pins : List (Addr × Obj)} {s : Shared} {σ : St} {H : Hp} {Q : VK} {elt tg iter : Expr} {ifs : List Expr} {scope : Scope} {own : List (Str × Nat)} {pos pos' : Pos} {wi : TI} {g : TG} {tt : TT} {te : TE} {use : Option (Value → Sem Unit)} {Qf : Value → Shared → Prop}
    (hex : X.ex = []) (hst : X.stack = X.env :: X.outer) (hfr : X.env.frame = some X.env.locals) (hair : AirTo X E) (hc : X.calm = true) (hN : X.N.Nodup) (I : Inv X pins σ H s) (hi : PI X tg iter wi) (ok : BlkOk X.N X.env.scope scope own)
    (hg : ∀ (s : Shared) (H : Hp) (C : Addr) (cl : List (Str × Addr)) (fp : List Addr) (xb : Value → Shared → Prop), PG ((X.blk s H scope (compEnvC scope cl C X.env) fp).wish xb) tg g) (ht : ∀ (s : Shared) (H : Hp) (C : Addr) (cl : List (Str × Addr)) (fp : List Addr) (xb : Value → Shared → Prop), PTs ((X.blk s H scope (compEnvC scope cl C X.env) fp).wish xb) ifs tt)
    (he : ∀ (s : Shared) (H : Hp) (C : Addr) (cl : List (Str × Addr)) (fp : List Addr) (xb : Value → Shared → Prop), Passes (CX1 X.prog X.w) ((X.blk s H scope (compEnvC scope cl C X.env) fp).wish xb) E → PE ((X.blk s H scope (compEnvC scope cl C X.env) fp).wish xb) elt te) (hs : ∀ x, foldedSetIterable iter X.env x = pure x)
    (h : tLc wi g tt te (own.map (·.2)) σ H Q)
    (hRR : ∀ D C s' m H', Inv X pins σ H' s' → Q (.ref D) H' → s'.heap.Ns C m → FpOk X pins H' C → compPost (model X.prog X.w) X.A X.xe use Qf (.ref D) C (.ok .next) s') :
    wpAny (model X.prog X.w) X.A (comprehension (.ListComp elt [⟨tg, iter, ifs, 0⟩] scope pos) scope X.env pos' (newList []) false (eval iter X.env) use) Qf X.xe s := by
  have hfree : ∀ y ∈ scope.names, y.2 = .free → ∃ c, X.env.cells.lookup y.1 = some c := fun y hy e => by
    rcases ok.free y hy e with k | k
    · exact I.ok.has _ (.inl k)
    · exact I.ok.has _ (.inr k)
  refine wpAny_comprehension_free (use := use) rfl hs (closure_ok hfree) ok.kind (fun y hy e => by rw [ok.uniq y hy, e])
    (thn (hi pins s σ H _ I h) fun xv s1 hx => thn hx fun itv s2 h2 => ?_)
  obtain ⟨it, fp, tn, J, H2, e, I2, T, st2, f2, q⟩ := h2
  subst e
  refine wpAny_newObj_type (newEnv_comp ?_) (by show 0 ≤ sizeLine; decide)
  generalize hD : s2.heap.objs.size = D
  have hDn : H2 D = none := I2.hok.fresh (Nat.le_of_eq hD)
  obtain ⟨W, ⟨m0, w0⟩, turn⟩ := q D hDn
  generalize hs3 : ({ s2 with heap := s2.heap.push { cls := .type "list", data := .seq ([] : List Value).toArray } } : Shared) = s3
  have I3 : Inv X pins σ (upd H2 D (.lst [])) s3 := by
    rw [← hs3]
    refine I2.laid (t' := s2.toks) (fun b o e => Heap.get?_push_of_some _ e) (Nat.le_of_eq hD) ⟨Nat.zero_le _, [], 0, .nil, ?_⟩
    rw [← hD]
    exact Heap.get?_push_size _ rfl
  have h3 : s3.heap = s2.heap.push { cls := .type "list", data := .seq ([] : List Value).toArray } := by rw [← hs3]
  have sz : ∀ b ∈ fp, b < s2.heap.objs.size := fun b hb => by
    obtain ⟨o, e, _⟩ := T.obj _ _ st2 b hb
    exact Heap.lt_size e
  have f3 : ∀ b ∈ fp, FpOk X pins (upd H2 D (.lst [])) b ∧ b < s3.heap.objs.size := fun b hb => by
    have hlt := sz b hb
    refine ⟨⟨?_, (f2 b hb).2⟩, by rw [h3, Heap.size_push]; exact Nat.lt_succ_of_lt hlt⟩
    rw [upd_ne (by rw [← hD]; exact Nat.ne_of_lt hlt)]
    exact (f2 b hb).1
  have st3 : tn 0 s3.heap := T.keep _ _ _ st2 fun b _ o e => by rw [h3]; exact Heap.get?_push_of_some _ e
  have I4 := (block_start I3 ok hN f3).wish (notedBy (model X.prog X.w) X.A (compEnvC scope (cellsFrom (s3.heap.objs.size + 1) scope.names (cloFrom X.env.cells scope.names [])) s3.heap.objs.size X.env) fun e s' => compPost (model X.prog X.w) X.A X.xe use Qf (.ref D) s3.heap.objs.size (.error e) s')
  have pg := hg s3 (upd H2 D (.lst [])) s3.heap.objs.size (cellsFrom (s3.heap.objs.size + 1) scope.names (cloFrom X.env.cells scope.names [])) fp (notedBy (model X.prog X.w) X.A (compEnvC scope (cellsFrom (s3.heap.objs.size + 1) scope.names (cloFrom X.env.cells scope.names [])) s3.heap.objs.size X.env) fun e s' => compPost (model X.prog X.w) X.A X.xe use Qf (.ref D) s3.heap.objs.size (.error e) s')
  have pt := ht s3 (upd H2 D (.lst [])) s3.heap.objs.size (cellsFrom (s3.heap.objs.size + 1) scope.names (cloFrom X.env.cells scope.names [])) fp (notedBy (model X.prog X.w) X.A (compEnvC scope (cellsFrom (s3.heap.objs.size + 1) scope.names (cloFrom X.env.cells scope.names [])) s3.heap.objs.size X.env) fun e s' => compPost (model X.prog X.w) X.A X.xe use Qf (.ref D) s3.heap.objs.size (.error e) s')
  have pe := he s3 (upd H2 D (.lst [])) s3.heap.objs.size (cellsFrom (s3.heap.objs.size + 1) scope.names (cloFrom X.env.cells scope.names [])) fp (notedBy (model X.prog X.w) X.A (compEnvC scope (cellsFrom (s3.heap.objs.size + 1) scope.names (cloFrom X.env.cells scope.names [])) s3.heap.objs.size X.env) fun e s' => compPost (model X.prog X.w) X.A X.xe use Qf (.ref D) s3.heap.objs.size (.error e) s')
  show codeAny _ _ (.compStart (.ListComp elt [⟨tg, iter, ifs, 0⟩] scope pos) 0 (.ref it) (.ref D) (compEnvC scope (cellsFrom (s3.heap.objs.size + 1) scope.names (cloFrom X.env.cells scope.names [])) s3.heap.objs.size X.env)) (compPost (model X.prog X.w) X.A X.xe use Qf (.ref D) s3.heap.objs.size) { s3 with heap := pushCells (s3.heap.push { cls := .type "dict", data := .dict #[] }) scope.names }
  have nfp : ∀ b ∈ fp, (upd H2 D (.lst [])) b = none := fun b hb => (f3 b hb).1.1
  generalize hce : compEnvC scope (cellsFrom (s3.heap.objs.size + 1) scope.names (cloFrom X.env.cells scope.names [])) s3.heap.objs.size X.env = ce at I4 pg pt pe ⊢
  have cL : ce.locals = s3.heap.objs.size := by subst hce; rfl
  have cF : ce.frame = X.env.frame := by subst hce; rfl
  generalize hH3 : upd H2 D (.lst []) = H3 at I3 I4 pg pt pe w0 nfp f3
  generalize hs4 : ({ s3 with heap := pushCells (s3.heap.push { cls := .type "dict", data := .dict #[] }) scope.names } : Shared) = s4 at I4 ⊢
  generalize hxb : (notedBy (model X.prog X.w) X.A ce fun e s' => compPost (model X.prog X.w) X.A X.xe use Qf (.ref D) s3.heap.objs.size (.error e) s') = xb at I4 pg pt pe
  have hp : Passes (CX1 X.prog X.w) ((X.blk s3 H3 scope ce fp).wish xb) E := by
    intro pins' σ' Hb sb e s' Ib hx
    obtain ⟨x, T0, cls, a0, n0, H', rfl, hos, hbare, un, hok, ⟨hx0, hT0, hxn, hTn⟩, ⟨ht, hq⟩, he'⟩ := hx
    have I1 : Inv ((X.blk s3 H3 scope ce fp).wish xb) pins' σ' H' s' := Ib.call' (ch := []) hos un hok hbare (fun b hb => absurd hb (by simp))
    have hfc : ∀ b ∈ fp, (b ∈ X.ex ∨ X.s_0.heap.objs.size ≤ b) ∧ b ≠ X.env.locals ∧ (∀ x c, X.env.cells.lookup x = some c → c ≠ b) ∧ ∀ p ∈ X.pn ++ pins, p.1 ≠ b := fun b hb => ⟨(f3 b hb).1.2.2.2.1, (f3 b hb).1.2.1, (f3 b hb).1.2.2.2.2.1, (f3 b hb).1.2.2.2.2.2⟩
    have Id0 : Inv X pins σ Hb sb := I3.call' (ch := fp) Ib.os Ib.base Ib.hok Ib.bare hfc
    have Id : Inv X pins σ H' s' := I3.call' (ch := fp) I1.os I1.base I1.hok I1.bare hfc
    have nC : H' s3.heap.objs.size = none := by
      have z : H' ce.locals = none := I1.free
      rw [cL] at z
      exact z
    obtain ⟨mC, hnC, _⟩ := I1.loc
    have hnC : s'.heap.Ns ce.locals mC := hnC
    rw [cL] at hnC
    rw [← hxb]
    show wpAny (model X.prog X.w) X.A (noteFrame (.ref x) ce) _ _ s'
    rw [noteFrame_congr cF]
    refine note_any (by rw [Id.ok.frames, hst]) hfr (by rw [← hst]; exact air_base (fl := .none) Id ht) fun h1 hh up => ?_
    obtain ⟨k1, k2, k3, oe', vs', T', oT', ts', t1, t2, t3, t4, t5, t6, t7, t8, t9⟩ := hh
    have hn1 : h1.Ns s3.heap.objs.size mC := up.ns hnC
    have hxC : x ≠ s3.heap.objs.size := fun z => by
      obtain ⟨o, es, ep, ho, hd, _⟩ := hn1
      rw [← z, t1] at ho; cases ho; rw [t3] at hd; cases hd
    have hTC : T' ≠ s3.heap.objs.size := fun z => by
      obtain ⟨o, es, ep, ho, hd, _⟩ := hn1
      rw [← z, t7] at ho; cases ho; rw [t8] at hd; cases hd
    refine ⟨mC, hn1, fun h2 sb2 cenv _ => ?_⟩
    have g1 : h2.get? x = some oe' := (sb2.2 x hxC).trans t1
    have g7 : h2.get? T' = some oT' := (sb2.2 T' hTC).trans t7
    have hs3 : 3 < ts'.size := (Array.getElem?_eq_some_iff.mp t9).1
    refine pass_on (s := { s' with heap := h2 }) g1 t3 t4 g7 t8 hs3 ?_
    have hent := air_entry Id up t5 t6 t7 t8
    have ap : ∀ b ∈ [x, T0, T', s3.heap.objs.size], X.s_0.heap.get? b = none ∧ b ≠ X.env.locals ∧ (∀ x c, X.env.cells.lookup x = some c → c ≠ b) ∧ (∀ p ∈ X.pn ++ pins, p.1 ≠ b) ∧ H' b = none := fun b hb => by
      have old : ∀ {b : Addr}, sb.heap.get? b = none → H' b = none → X.s_0.heap.get? b = none ∧ b ≠ X.env.locals ∧ (∀ x c, X.env.cells.lookup x = some c → c ≠ b) ∧ (∀ p ∈ X.pn ++ pins, p.1 ≠ b) ∧ H' b = none := fun {b} q n => by
        obtain ⟨z1, z2, z3, z4⟩ := Id0.apart hex q
        exact ⟨z1, z2, z3, z4, n⟩
      rcases List.mem_cons.mp hb with rfl | hb
      · exact old hx0 hxn
      · rcases List.mem_cons.mp hb with rfl | hb
        · exact old hT0 hTn
        · rcases List.mem_cons.mp hb with rfl | hb
          · rcases hent with q | rfl
            · obtain ⟨z1, z2, z3, z4⟩ := Id.apart hex q
              exact ⟨z1, z2, z3, z4, hok_none Id.hok q⟩
            · exact old hT0 hTn
          · rcases List.mem_cons.mp hb with rfl | hb
            · obtain ⟨_, z2, _, _, z5, z6⟩ := I3.fpOk (Nat.le_refl _) nC
              exact ⟨I3.none0 hex (Heap.get?_none_of_le (Nat.le_refl _)), z2, z5, z6, nC⟩
            · cases hb
    have frC : ∀ b ∈ frs X.stack, b ≠ s3.heap.objs.size := fun b hb z => by
      obtain ⟨_, o, ho, _⟩ := I3.stack.mem hb
      rw [z] at ho
      exact absurd (Heap.lt_size ho) (Nat.lt_irrefl _)
    have Im := Id.moved (h' := h2.update T' (Obj.mapFields (·.setIfInBounds 3 (cenv.frame.elim Value.none fun f => rawInt f)))) [x, T0, T', s3.heap.objs.size] ap
      (fun b o q nb nd => by
        have n1 : b ∉ [x, T0] := fun z => nd (by
          rcases List.mem_cons.mp z with rfl | z
          · simp
          · rcases List.mem_cons.mp z with rfl | z
            · simp
            · cases z)
        have n2 : b ≠ T' := fun z => nd (by rw [z]; simp)
        have n3 : b ≠ s3.heap.objs.size := fun z => nd (by rw [z]; simp)
        rw [Heap.get?_update_other _ _ (Ne.symm n2), sb2.2 b n3]
        exact air_keep k1 b o q nb n1)
      (fun b o q hm => by
        obtain ⟨nf, sl, z⟩ := air_slot Id up b o q hm
        have n2 : b ≠ T' := fun w => by
          rw [w, t7] at z
          cases z
          exact nf ts' t8
        refine ⟨sl, ?_⟩
        rw [Heap.get?_update_other _ _ (Ne.symm n2), sb2.2 b (frC b hm)]
        exact z)
    refine hair pins σ H' _ x T' cls a0 (cenv.frame.elim Value.none fun f => rawInt f) n0 Im ⟨(ap x (by simp)).1, (ap T' (by simp)).1, hxn, (ap T' (by simp)).2.2.2.2⟩ ?_ ((air_chain Id k1 hent hq).move fun a o vs q1 q2 q3 q4 => ⟨?_, q3, q4⟩) he'
    rotate_left
    · rw [Heap.get?_update_other _ _ (fun z => q4 (by rw [z]; simp)), sb2.2 a (fun z => by
        obtain ⟨o2, es, ep, ho, hd, _⟩ := hn1
        rw [← z, q1] at ho; cases ho; rw [q2] at hd; cases hd)]
      exact q1
    exact ⟨oe', vs', _, _, (Heap.get?_update_other _ _ t6).trans g1, t2, t3, t4, t6, Heap.get?_update_self _ g7 (Obj.isFreed_of_fields (Obj.data_mapFields t8 _)), Obj.data_mapFields t8 _, by simp [hs3]⟩
  subst hxb
  have st4 : tn 0 s4.heap := T.keep _ _ _ st3 fun b _ o e => by rw [← hs4]; exact pushCells_keeps _ _ _ _ (Heap.get?_push_of_some _ e)
  have stat : ∀ {σ' : St} {H' : Hp} {s' : Shared}, Inv ((X.blk s3 H3 scope ce fp).wish (notedBy (model X.prog X.w) X.A ce fun e s' => compPost (model X.prog X.w) X.A X.xe use Qf (.ref D) s3.heap.objs.size (.error e) s')) [] σ' H' s' → (∀ b ∈ fp, H' b = none) → ∀ b ∈ fp, FpOk ((X.blk s3 H3 scope ce fp).wish (notedBy (model X.prog X.w) X.A ce fun e s' => compPost (model X.prog X.w) X.A X.xe use Qf (.ref D) s3.heap.objs.size (.error e) s')) [] H' b := fun {σ' H' s'} I' hn b hb =>
    ⟨hn b hb, (I'.ok.exf b hb).1, I'.ok.exfs b hb, .inl hb, fun x c e => (I'.ok.exf b hb).2 x c e, fun p hp => absurd (show p ∈ ([] : List (Addr × Obj)) ++ [] from hp) (by simp)⟩
  have loop : codeAny (model X.prog X.w) X.A (.compLoop (.ListComp elt [⟨tg, iter, ifs, 0⟩] scope pos) 0 (.ref it) (.ref D) ce) (compPost (model X.prog X.w) X.A X.xe use Qf (.ref D) s3.heap.objs.size) s4 := by
    refine compLoop_any (fun n s' => ∃ i H', Inv ((X.blk s3 H3 scope ce fp).wish (notedBy (model X.prog X.w) X.A ce fun e s' => compPost (model X.prog X.w) X.A X.xe use Qf (.ref D) s3.heap.objs.size (.error e) s')) [] (wipe σ (own.map (·.2))) H' s' ∧ tn i s'.heap ∧ (∀ b ∈ fp, H' b = none) ∧ W i n H') ?_ m0 ⟨0, H3, I4, st4, nfp, w0⟩
    rintro n s5 ⟨i, H5, I5, st5, n5, w5⟩
    rcases turn i n H5 w5 with ⟨stop, qq⟩ | ⟨go, Nx, hNx, step⟩
    · have td := T.done ((X.blk s3 H3 scope ce fp).wish (notedBy (model X.prog X.w) X.A ce fun e s' => compPost (model X.prog X.w) X.A X.xe use Qf (.ref D) s3.heap.objs.size (.error e) s')) rfl rfl rfl hc i [] s5 _ H5 (fun _ _ => False) I5 (stat I5 n5) st5 stop
      refine thnF td fun r s6 ⟨hr, I6⟩ => ?_
      subst hr
      have I7 : Inv X pins σ H5 s6 := I3.call' (ch := fp) I6.os I6.base I6.hok I6.bare fun b hb => ⟨(f3 b hb).1.2.2.2.1, (f3 b hb).1.2.1, (f3 b hb).1.2.2.2.2.1, (f3 b hb).1.2.2.2.2.2⟩
      have nC : H5 s3.heap.objs.size = none := by
        have z : H5 ce.locals = none := I6.free
        rw [cL] at z
        exact z
      obtain ⟨m, hn, _⟩ := I6.loc
      have hn : s6.heap.Ns ce.locals m := hn
      rw [cL] at hn
      exact hRR D s3.heap.objs.size s6 m H5 I7 qq hn (I3.fpOk (Nat.le_refl _) nC)
    · have ti := T.item ((X.blk s3 H3 scope ce fp).wish (notedBy (model X.prog X.w) X.A ce fun e s' => compPost (model X.prog X.w) X.A X.xe use Qf (.ref D) s3.heap.objs.size (.error e) s')) rfl rfl rfl hc i [] s5 _ H5 (fun _ _ => False) I5 (stat I5 n5) st5 go
      refine thnF ti fun r s6 ⟨u, hr, h6⟩ => ?_
      subst hr
      refine thnF h6 fun _ s7 ⟨x, H7, I7, r7, y7, st7, n7⟩ => ?_
      have I7' := I7.pinned (stat I7 n7) (T.obj _ _ st7)
      refine thn (pg _ s7 _ H7 x u _ I7' r7 (step x H7 y7)) fun _ s8 ⟨σ8, H8, I8, hw8, q8⟩ => ?_
      refine thn (pt _ s8 σ8 H8 _ I8 q8) fun b s9 ⟨H9, I9, q9⟩ => ?_
      have fin : ∀ {s' : Shared} {H' : Hp}, Inv ((X.blk s3 H3 scope ce fp).wish (notedBy (model X.prog X.w) X.A ce fun e s' => compPost (model X.prog X.w) X.A X.xe use Qf (.ref D) s3.heap.objs.size (.error e) s')) ([] ++ pinsAt fp s7.heap) σ8 H' s' → Nx H' → ∃ m, m < n ∧ ∃ i H', Inv ((X.blk s3 H3 scope ce fp).wish (notedBy (model X.prog X.w) X.A ce fun e s' => compPost (model X.prog X.w) X.A X.xe use Qf (.ref D) s3.heap.objs.size (.error e) s')) [] (wipe σ (own.map (·.2))) H' s' ∧ tn i s'.heap ∧ (∀ b ∈ fp, H' b = none) ∧ W i m H' := fun {s' H'} I' nx => by
        obtain ⟨m', hm, w'⟩ := hNx H' nx
        have pin' : ∀ b ∈ fp, ∀ o, s7.heap.get? b = some o → s'.heap.get? b = some o ∧ H' b = none := fun b hb o e =>
          let z := I'.pin (b, o) (List.mem_append_right _ (List.mem_append_right _ (mem_pinsAt hb e)))
          ⟨z.1, z.2.1⟩
        have hl : (wipe σ (own.map (·.2))).length = σ8.length := by rw [← hw8, wipe_length]
        refine ⟨m', hm, i + 1, H', (I'.unpinned (pins := [])).weak hl (fun j v e => ?_), T.keep _ _ _ st7 fun b hb o e => (pin' b hb o e).1, fun b hb => ?_, w'⟩
        · rw [← hw8] at e
          exact (wipe_some e).1
        · obtain ⟨o, e, _⟩ := T.obj _ _ st7 b hb
          exact (pin' b hb o e).2
      cases b with
      | false =>
        simp only [Bool.false_eq_true, if_false] at q9 ⊢
        exact fin I9 q9
      | true =>
        simp only [if_true] at q9 ⊢
        refine thn (pe hp _ s9 σ8 H9 _ I9 q9) fun z s10 ⟨yv, H10, I10, r10, acc, hD10, hz10, nx⟩ => ?_
        exact app_ok (X := (X.blk s3 H3 scope ce fp).wish (notedBy (model X.prog X.w) X.A ce fun e s' => compPost (model X.prog X.w) X.A X.xe use Qf (.ref D) s3.heap.objs.size (.error e) s')) I10 hD10 hz10 r10 fun s11 I11 => fin I11 nx
  exact codeAny_compStart_list loop (T.self X.A 0 _ _ _ st4 loop)
theorem pe_lcE {E : XK} {elt tg iter : Expr} {ifs : List Expr} {scope : Scope} {own : List (Str × Nat)} {pos : Pos} {wi : TI} {g : TG} {tt : TT} {te : TE} (hex : X.ex = []) (hst : X.stack = X.env :: X.outer) (hfr : X.env.frame = some X.env.locals) (hair : AirTo X E) (hc : X.calm = true) (hN : X.N.Nodup) (hi : PI X tg iter wi) (ok : BlkOk X.N X.env.scope scope own)
    (hg : ∀ (s : Shared) (H : Hp) (C : Addr) (cl : List (Str × Addr)) (fp : List Addr) (xb : Value → Shared → Prop), PG ((X.blk s H scope (compEnvC scope cl C X.env) fp).wish xb) tg g) (ht : ∀ (s : Shared) (H : Hp) (C : Addr) (cl : List (Str × Addr)) (fp : List Addr) (xb : Value → Shared → Prop), PTs ((X.blk s H scope (compEnvC scope cl C X.env) fp).wish xb) ifs tt)
    (he : ∀ (s : Shared) (H : Hp) (C : Addr) (cl : List (Str × Addr)) (fp : List Addr) (xb : Value → Shared → Prop), Passes (CX1 X.prog X.w) ((X.blk s H scope (compEnvC scope cl C X.env) fp).wish xb) E → PE ((X.blk s H scope (compEnvC scope cl C X.env) fp).wish xb) elt te) (hs : ∀ x, foldedSetIterable iter X.env x = pure x := by intro _; rfl) :
    PE X (.ListComp elt [⟨tg, iter, ifs, 0⟩] scope pos) (tLc wi g tt te (own.map (·.2))) := by
  intro pins s σ H Q I h
  rw [eval_ListComp]
  refine lc_coreE hex hst hfr hair hc hN I hi ok hg ht he hs h fun D C s' m H' I' q hn f => ⟨m, hn, fun h'' sb => ?_⟩
  obtain ⟨f0, f1, f2, f3, f4, f5⟩ := f
  exact ⟨.ref D, H', I'.turned (t' := s'.toks) (fun b o hb e => (sb.2 b hb).trans e) f0 f1 f3 f4 f5, rfl, q⟩
end
end L2
namespace L2
open PySem PySem.Spec PyProof.Rows
def AirAt (X : Cx) (pins : List (Addr × Obj)) (σ : St) (E : XK) (ev : Value) (s : Shared) : Prop := ∃ (x T : Addr) (cls c fl : Value) (n : Nat) (H : Hp), ev = .ref x ∧ Inv X pins σ H s ∧
  (∀ b ∈ [x, T], X.s_0.heap.get? b = none ∧ b ≠ X.env.locals ∧ (∀ y c, X.env.cells.lookup y = some c → c ≠ b) ∧ (∀ p ∈ X.pn ++ pins, p.1 ≠ b) ∧ H b = none) ∧ TrF s.heap x T cls c fl ∧ Chn s.heap H [x, T] n c ∧ E cls none H
section
variable {X : Cx} {pins : List (Addr × Obj)} {σ : St} {H : Hp} {s s' : Shared} {E : XK}
theorem air_of_CX1 (I : Inv X pins σ H s) (hex : X.ex = []) {e : Value} (h : CX1 X.prog X.w X.stack H s E e s') : AirAt X pins σ E e s' := by
  obtain ⟨x, T, cls, c, n, H', rfl, hos, hbare, un, hok, ⟨hx0, hT0, hxn, hTn⟩, ⟨ht, hq⟩, he⟩ := h
  have I1 : Inv X pins σ H' s' := I.call' (ch := []) hos un hok hbare (fun b hb => absurd hb (by simp))
  obtain ⟨z1, z2, z3, z4⟩ := I.apart hex hx0
  obtain ⟨y1, y2, y3, y4⟩ := I.apart hex hT0
  exact ⟨x, T, cls, c, .none, n, H', rfl, I1, two_cases ⟨z1, z2, z3, z4, hxn⟩ ⟨y1, y2, y3, y4, hTn⟩, ht, hq, he⟩
theorem air_on {x T : Addr} {cls c fl : Value} {n : Nat} {l : List Env} {h2 : Heap} (hex : X.ex = []) (I : Inv X pins σ H s) (ap : ∀ b ∈ [x, T], X.s_0.heap.get? b = none ∧ b ≠ X.env.locals ∧ (∀ y c, X.env.cells.lookup y = some c → c ≠ b) ∧ (∀ p ∈ X.pn ++ pins, p.1 ≠ b) ∧ H b = none) (hq : Chn s.heap H [x, T] n c) (he : E cls none H)
    (o : OnV (PySem.W.hideAll s.heap (x :: T :: frs X.stack)) l x cls c fl h2) (up : s.heap.UpToSlots h2) : AirAt X pins σ E (.ref x) { s with heap := h2 } := by
  obtain ⟨k1, k2, k3, oe', vs', T', oT', ts', t1, t2, t3, t4, t5, t6, t7, t8, t9⟩ := o
  have hent := air_entry I up t5 t6 t7 t8
  have apx := ap x (by simp)
  have apT := ap T (by simp)
  have apT' : X.s_0.heap.get? T' = none ∧ T' ≠ X.env.locals ∧ (∀ y c, X.env.cells.lookup y = some c → c ≠ T') ∧ (∀ p ∈ X.pn ++ pins, p.1 ≠ T') ∧ H T' = none := by
    rcases id hent with q | rfl
    · obtain ⟨z1, z2, z3, z4⟩ := I.apart hex q
      exact ⟨z1, z2, z3, z4, hok_none I.hok q⟩
    · exact apT
  have Im : Inv X pins σ H { s with heap := h2 } := I.moved [x, T] (two_cases apx apT) (air_keep k1) (fun b o q hm => (air_slot I up b o q hm).2)
  exact ⟨x, T', cls, c, fl, n, H, rfl, Im, two_cases apx apT', ⟨oe', vs', oT', ts', t1, t2, t3, t4, t6, t7, t8, t9⟩, air_chain I k1 hent hq, he⟩
theorem air_note {M : Model} {Ee : Value → Shared → Prop} {Q : Unit → Shared → Prop} {A : Around} {ev : Value} (hex : X.ex = []) (hst : X.stack = X.env :: X.outer) (hfr : X.env.frame = some X.env.locals) (hA : A.frames = X.A.frames) (h : AirAt X pins σ E ev s) (k : ∀ s3, AirAt X pins σ E ev s3 → Q () s3) :
    wpAny M A (noteFrame ev X.env) Q Ee s := by
  obtain ⟨x, T, cls, c, fl, n, H, rfl, I, ap, ht, hq, he⟩ := h
  exact note_any (by rw [hA, I.ok.frames, hst]) hfr (by rw [← hst]; exact air_base I ht) fun h1 hh up => k _ (air_on hex I ap hq he hh up)
theorem air_flight {M : Model} {Ee : Value → Shared → Prop} {Q : Unit → Shared → Prop} {A : Around} {ev : Value} {fo : Option Addr} (hex : X.ex = []) (h : AirAt X pins σ E ev s) (k : ∀ s3, AirAt X pins σ E ev s3 → Q () s3) : wpAny M A (setFlight ev fo) Q Ee s := by
  obtain ⟨x, T, cls, c, fl, n, H, rfl, I, ap, ht, hq, he⟩ := h
  exact flight_set (air_base I ht) fun h2 o up => k _ (air_on hex I ap hq he o up)
theorem air_back {M : Model} {Q : Value → Shared → Prop} {A : Around} {ev : Value} (hex : X.ex = []) (h : AirAt X pins σ E ev s) (k : ∀ s3, AirAt X pins σ E ev s3 → Q ev s3) : cameBackBy M A X.env Q ev s := by
  obtain ⟨x, T, cls, c, fl, n, H, rfl, I, ap, ht, hq, he⟩ := id h
  obtain ⟨oe, vs, oT, ts, g1, g2, g3, g4, _⟩ := ht
  unfold cameBackBy
  refine wpAny_bind (wpAny_field g1 g3 g4 ?_)
  rw [if_neg (by simp)]
  exact air_flight hex h k
theorem AirAt.imp {E' : XK} {ev : Value} (h : AirAt X pins σ E ev s) (k : ∀ cls d H, E cls d H → E' cls d H) : AirAt X pins σ E' ev s := by
  obtain ⟨x, T, cls, c, fl, n, H, e, I, ap, ht, hq, he⟩ := h
  exact ⟨x, T, cls, c, fl, n, H, e, I, ap, ht, hq, k _ _ _ he⟩
end
theorem excMatches_own {M : Model} {A : Around} {E : Value → Shared → Prop} {h : Heap} {g : Array GenState} {d : Drawn} {t : Nat} {os : OsState} {e C C2 : Addr} {oe : Obj} {Q : Bool → Shared → Prop}
    {nm q : Str} {N : Addr} {bs bm : List Value} {hdct : Bool} {sn : List Str} {sub : List Value} {ab : Bool} {col : Option Bool} {dd : Option Addr} {k0 k1 k2 k3 k5 : Option Value} {newId : String}
    {nm' q' : Str} {N' : Addr} {bs' bm' : List Value} {hdct' : Bool} {sn' : List Str} {sub' : List Value} {ab' : Bool} {col' : Option Bool} {dd' : Option Addr} {j0 j1 j2 j3 j5 : Option Value} {newId' : String}
    (hC : h.get? C = some (excClassObj nm q C N bs bm hdct sn sub ab col dd k0 k1 k2 k3 k5 newId)) (hC2 : h.get? C2 = some (excClassObj nm' q' C2 N' bs' bm' hdct' sn' sub' ab' col' dd' j0 j1 j2 j3 j5 newId')) (he : h.get? e = some oe) (hcls : oe.cls = .ref C) (hbase : bm'.contains (.type "BaseException") = true)
    (hq : Q ((Value.ref C :: bm).contains (.ref C2)) ⟨h, g, d, t, os⟩) : wpAny M A (excMatches (.ref e) (.ref C2)) Q E ⟨h, g, d, t, os⟩ := by
  have hcB : (Value.ref C2 :: bm').contains (.type "BaseException") = true := by rw [List.contains_cons, hbase, Bool.or_true]
  have f := tc_notTuple
  unfold excMatches
  repeat (first | (with_reducible refine wpAny_loadPart_at he ?_; rw [hcls]) | with_reducible refine wpAny_loadPart_at hC2 ?_ | (with_reducible refine wpAny_isSubtype_exc hC2 ?_; rw [hcB]) | with_reducible refine wpAny_isSubtype_exc hC ?_ | wp_step)
  cases hb : (Value.ref C :: bm).contains (.ref C2) <;> (rw [hb] at hq; wp_walk; exact hq)
def baseIn (K : PySem.W.Frag) (C : Addr) : Bool := match K.lookup C with
  | some ⟨_, _, .cls cd, _⟩ => cd.mro == .ref C :: EXB
  | _ => false
theorem base_is {K : PySem.W.Frag} {h : Heap} {C : Addr} (X : K.In h) (hb : baseIn K C = true) {nm q : Str} {N : Addr} {bs bm : List Value} {hdct : Bool} {sn : List Str} {sub : List Value} {ab : Bool} {col : Option Bool} {dd : Option Addr} {k0 k1 k2 k3 k5 : Option Value} {newId : String}
    (hC : h.get? C = some (excClassObj nm q C N bs bm hdct sn sub ab col dd k0 k1 k2 k3 k5 newId)) : bm = EXB := by
  unfold baseIn at hb
  split at hb
  · rename_i ho
    have := X _ _ ho
    rw [hC] at this
    cases this
    have z := beq_iff_eq.mp hb
    cases z
    rfl
  · cases hb
structure Own (K : PySem.W.Frag) (C : Addr) : Prop where
  exc : ExcK K C
  base : baseIn K C = true
inductive PCh : List (Addr × Obj) → Nat → Value → Prop
  | nil : PCh [] 0 .none
  | cons {a : Addr} {o : Obj} {vs : Array Value} {c : Value} {n : Nat} {ps : List (Addr × Obj)} : o.data = .fields vs → vs[2]? = some c → PCh ps n c → PCh ((a, o) :: ps) (n + 1) (.ref a)
theorem Chn.pins {h : Heap} {H : Hp} {av : List Addr} {n : Nat} {c : Value} (x : Chn h H av n c) : ∃ ps, PCh ps n c ∧ ∀ p ∈ ps, h.get? p.1 = some p.2 ∧ H p.1 = none ∧ ∃ vs, p.2.data = .fields vs := by
  induction x with
  | nil => exact ⟨[], .nil, fun p hp => absurd hp (by simp)⟩
  | @cons n a o vs c h1 h2 h3 h4 h5 _ ih =>
    obtain ⟨ps, k1, k2⟩ := ih
    refine ⟨(a, o) :: ps, .cons h2 h3 k1, fun p hp => ?_⟩
    rcases List.mem_cons.mp hp with rfl | hp
    · exact ⟨h1, h4, vs, h2⟩
    · exact k2 p hp
theorem PCh.chn {ps : List (Addr × Obj)} {n : Nat} {c : Value} (x : PCh ps n c) {h : Heap} {H : Hp} {av : List Addr} (k : ∀ p ∈ ps, h.get? p.1 = some p.2 ∧ H p.1 = none ∧ p.1 ∉ av) : Chn h H av n c := by
  induction x with
  | nil => exact .nil
  | cons h1 h2 _ ih =>
    obtain ⟨k1, k2, k3⟩ := k _ (List.mem_cons_self ..)
    exact .cons k1 h1 h2 k2 k3 (ih fun p hp => k p (List.mem_cons_of_mem _ hp))
def Hnd (X : Cx) : Prop := ∃ h ps n, X.A.handled = some (.ref h) ∧ PCh ps n (.ref h) ∧ ∀ p ∈ ps, p ∈ X.pn
abbrev Cx.mrk (X : Cx) (x : Addr) (ps : List (Addr × Obj)) : Cx := { X with A := X.A.mark (some (.ref x)), calm := false, pn := X.pn ++ ps, xe := notedBy (model X.prog X.w) (X.A.mark (some (.ref x))) X.env (cameBackBy (model X.prog X.w) X.A X.env X.xe) }
section
variable {X : Cx} {pins ps : List (Addr × Obj)} {σ : St} {H : Hp} {s : Shared} {x : Addr} {E : XK}
theorem Cx.Ok.mrk (ok : X.Ok) (x : Addr) (ps : List (Addr × Obj)) : (X.mrk x ps).Ok := ⟨ok.mod, ok.kind, ok.glob, ok.blt, ok.above, ok.inj, ok.has, ok.cab, (fun z => nomatch z), ok.frames, ok.stk, ok.exf, ok.bs, ok.bsz, ok.noex, ok.exfs, ok.funs, ok.frf⟩
theorem Inv.mrk (I : Inv X pins σ H s) (x : Addr) (hp : ∀ p ∈ ps, s.heap.get? p.1 = some p.2 ∧ H p.1 = none ∧ ∃ vs, p.2.data = .fields vs) : Inv (X.mrk x ps) pins σ H s := by
  refine ⟨I.ok.mrk x ps, I.os, I.bare, I.base, I.loc, I.cell, I.free, I.freeC, fun p hm => ?_, I.hok, I.len⟩
  rcases List.mem_append.mp hm with hm | hm
  · rcases List.mem_append.mp hm with hm | hm
    · exact I.pin p (List.mem_append_left _ hm)
    · obtain ⟨g1, g2, vs, g3⟩ := hp p hm
      refine ⟨g1, g2, fun z => ?_, fun z => ?_, fun v q => by rw [g3] at q; cases q⟩
      · obtain ⟨m, ⟨o, es, ep, ho, hd, _⟩, _⟩ := I.loc
        rw [← z, g1] at ho; cases ho; rw [g3] at hd; cases hd
      · obtain ⟨_, o, ho, nf⟩ := I.funs.mem z
        rw [g1] at ho; cases ho; exact nf vs g3
  · exact I.pin p (List.mem_append_right _ hm)
theorem Inv.unmrk (ok : X.Ok) (I : Inv (X.mrk x ps) pins σ H s) : Inv X pins σ H s := ⟨ok, I.os, I.bare, I.base, I.loc, I.cell, I.free, I.freeC, fun p hm => I.pin p (by
  rcases List.mem_append.mp hm with hm | hm
  · exact List.mem_append_left _ (List.mem_append_left _ hm)
  · exact List.mem_append_right _ hm), I.hok, I.len⟩
theorem SP.unmrk (ok : X.Ok) {D : Ends} {f : Flow} {s' : Shared} (h : SP (X.mrk x ps) pins D f s') : SP X pins D f s' := by
  cases f with
  | next => obtain ⟨σ', H', I, q⟩ := h; exact ⟨σ', H', I.unmrk ok, q⟩
  | brk => obtain ⟨σ', H', I, q⟩ := h; exact ⟨σ', H', I.unmrk ok, q⟩
  | cont => obtain ⟨σ', H', I, q⟩ := h; exact ⟨σ', H', I.unmrk ok, q⟩
  | ret u => obtain ⟨v, σ', H', I, r, q⟩ := h; exact ⟨v, σ', H', I.unmrk ok, r, q⟩
theorem hnd_mrk {n : Nat} (q : PCh ps n (.ref x)) : Hnd (X.mrk x ps) := ⟨x, ps, n, rfl, q, fun p hp => List.mem_append_right _ hp⟩
theorem clause {C : Addr} {y : Str} {np pos : Pos} {b0 : Stmt} {suite : List Stmt} {rest : List ExceptHandler} {t : TS} {D : Ends} {ev : Value} (hex : X.ex = []) (hC : Own X.K C) (hg : Gl X y) (hm : X.mg y = some (.ref C)) (hsu : ∀ x ps n, PCh ps n (.ref x) → PSs (X.mrk x ps) (b0 :: suite) t)
    (own : ∀ cls d H, E cls d H → ∃ C', cls = .ref C' ∧ Own X.K C') (hit : ∀ d H, E (.ref C) d H → t D σ H) (h : AirAt X pins σ E ev s)
    (miss : ∀ s3, AirAt X pins σ (fun cls d H => E cls d H ∧ cls ≠ .ref C) ev s3 → wpAny (model X.prog X.w) X.A (handleBy ev X.env rest) (SP X pins D) X.xe s3) (hd : (y == ("__debug__" : Str)) = false := by decide) :
    wpAny (model X.prog X.w) X.A (handleBy ev X.env (.ExceptHandler (some (.Name y np)) none (b0 :: suite) pos :: rest)) (SP X pins D) X.xe s := by
  obtain ⟨x, T, cls, c, fl, n, H, rfl, I, ap, ht, hq, he⟩ := id h
  refine wpAny_handleBy_cons (codeAny_handlers_test (ld_glob (X := X.mrk x []) (I.mrk x fun p hp => absurd hp (by simp)) hg hm ?_ hd)) (by intro q; cases q)
  obtain ⟨C', rfl, oC⟩ := own _ _ _ he
  obtain ⟨bm, N, nm, qn, bs, hdct, sn, sub, ab, col, dd, k0, k1, k2, k3, k5, mN, g1, g2, g3, g4⟩ := oC.exc.obj I.kIn
  obtain ⟨bm', N', nm', qn', bs', hdct', sn', sub', ab', col', dd', j0, j1, j2, j3, j5, mN', g1', g2', g3', g4'⟩ := hC.exc.obj I.kIn
  obtain rfl := base_is I.kIn oC.base g1
  obtain rfl := base_is I.kIn hC.base g1'
  obtain ⟨oe, vs, oT, ts, e1, e2, _⟩ := id ht
  obtain ⟨hh, g, d, tk, os⟩ := s
  refine excMatches_own g1 g1' e1 e2.1 (by decide) ?_
  by_cases hc : C' = C
  · subst hc
    have : (Value.ref C' :: EXB).contains (.ref C') = true := by simp
    rw [this]
    have h0 : AirAt X pins σ (fun cls d H => E cls d H ∧ cls = .ref C') (.ref x) ⟨hh, g, d, tk, os⟩ := ⟨x, T, _, c, fl, n, H, rfl, I, ap, ht, hq, he, rfl⟩
    refine codeAny_handlers_suite (air_flight hex h0 fun s3 h3 => ?_)
    obtain ⟨x3, T3, cls3, c3, fl3, n3, H3, q3, I3, ap3, ht3, hq3, he3, rfl⟩ := h3
    cases q3
    obtain ⟨oe3, vs3, _, _, z1, z2, z3, _⟩ := ht3
    have ch : Chn s3.heap H3 [] (n3 + 1) (.ref x) := .cons z1 z3 z2.2 (ap3 x (by simp)).2.2.2.2 (by simp) (hq3.move fun a o vs q1 _ q3 _ => ⟨q1, q3, by simp⟩)
    obtain ⟨ps, p1, p2⟩ := ch.pins
    exact wpAny_mono (hsu x ps _ p1 pins s3 σ H3 D (I3.mrk x p2) (hit _ _ he3)) (fun f s' q => q.unmrk I.ok) (fun _ _ z => z)
  · have : (Value.ref C' :: EXB).contains (.ref C) = false := by
      have e : (Value.ref C == Value.ref C') = false := by simp; exact fun z => hc z.symm
      rw [List.contains_cons, e]; rfl
    rw [this]
    exact miss _ ⟨x, T, _, c, fl, n, H, rfl, I, ap, ht, hq, he, fun z => hc (by cases z; rfl)⟩
def c2 (C : Addr) (u : TS) (C' : Addr) (u' : TS) : Ends → St → XK := fun D σ cls _ H => (cls = .ref C ∧ u D σ H) ∨ (cls = .ref C' ∧ u' D σ H)
abbrev Cx.tr (X : Cx) (pn : List (Addr × Obj)) (xe : Value → Shared → Prop) : Cx := { X with pn := pn, xe := xe }
def PassesS (X : Cx) (E : St → XK) : Prop := ∀ (pins : List (Addr × Obj)) (σ : St) (H : Hp) (s : Shared) (e : Value) (s' : Shared), Inv X pins σ H s → CX1 X.prog X.w X.stack H s (E σ) e s' → X.xe e s'
def tTry (tb : (St → XK) → TS) (cl : Ends → St → XK) : TS := fun D σ H => tb (cl D) D σ H
theorem Inv.tr {xe : Value → Shared → Prop} (I : Inv X pins σ H s) : Inv (X.tr (X.pn ++ pins) xe) [] σ H s :=
  ⟨⟨I.ok.mod, I.ok.kind, I.ok.glob, I.ok.blt, I.ok.above, I.ok.inj, I.ok.has, I.ok.cab, I.ok.hd, I.ok.frames, I.ok.stk, I.ok.exf, I.ok.bs, I.ok.bsz, I.ok.noex, I.ok.exfs, I.ok.funs, I.ok.frf⟩, I.os, I.bare, I.base, I.loc, I.cell, I.free, I.freeC, fun p hp => I.pin p (by rw [List.append_nil] at hp; exact hp), I.hok, I.len⟩
theorem Inv.untr {xe : Value → Shared → Prop} {pins' : List (Addr × Obj)} (ok : X.Ok) (I : Inv (X.tr (X.pn ++ pins) xe) pins' σ H s) : Inv X pins σ H s := ⟨ok, I.os, I.bare, I.base, I.loc, I.cell, I.free, I.freeC, fun p hp => I.pin p (List.mem_append_left _ hp), I.hok, I.len⟩
theorem SP.untr {xe : Value → Shared → Prop} {pins' : List (Addr × Obj)} (ok : X.Ok) {D : Ends} {f : Flow} {s' : Shared} (h : SP (X.tr (X.pn ++ pins) xe) pins' D f s') : SP X pins D f s' := by
  cases f with
  | next => obtain ⟨σ', H', I, q⟩ := h; exact ⟨σ', H', I.untr ok, q⟩
  | brk => obtain ⟨σ', H', I, q⟩ := h; exact ⟨σ', H', I.untr ok, q⟩
  | cont => obtain ⟨σ', H', I, q⟩ := h; exact ⟨σ', H', I.untr ok, q⟩
  | ret u => obtain ⟨v, σ', H', I, r, q⟩ := h; exact ⟨v, σ', H', I.untr ok, r, q⟩
theorem ps_try {tb : (St → XK) → TS} {cl : Ends → St → XK} {body : List Stmt} {h0 : ExceptHandler} {hs : List ExceptHandler} {pos : Pos} (hex : X.ex = []) (hst : X.stack = X.env :: X.outer) (hfr : X.env.frame = some X.env.locals)
    (hb : ∀ (E : St → XK) (pn : List (Addr × Obj)) (xe : Value → Shared → Prop), PassesS (X.tr pn xe) E → PassesOwn (model X.prog X.w) X.A X.env xe → PSs (X.tr pn xe) body (tb E))
    (hh : ∀ (pins : List (Addr × Obj)) (σ : St) (D : Ends) (ev : Value) (s3 : Shared), AirAt X pins σ (cl D σ) ev s3 → wpAny (model X.prog X.w) X.A (handleBy ev X.env (h0 :: hs)) (SP X pins D) X.xe s3) :
    PS X (.Try body (h0 :: hs) [] [] pos) (tTry tb cl) := by
  intro pins s σ H D I h
  have hp : PassesS (X.tr (X.pn ++ pins) fun ev s => ∃ σ', AirAt X pins σ' (cl D σ') ev s) (cl D) := fun pins' σ' H' s1 e s' I' q => ⟨σ', air_of_CX1 (I'.untr I.ok) hex q⟩
  have ho : PassesOwn (model X.prog X.w) X.A X.env fun ev s => ∃ σ', AirAt X pins σ' (cl D σ') ev s := fun ev s1 ⟨σ', q⟩ => air_note hex hst hfr rfl q fun s2 q2 => air_back hex q2 fun s3 q3 => ⟨σ', q3⟩
  refine wpAny_Try_except (wpAny_mono (hb (cl D) _ _ hp ho [] s σ H D I.tr h) (fun f s1 q => ?_) fun ev s1 ⟨σ', q⟩ => air_note hex hst hfr rfl q fun s2 q2 => air_flight hex q2 fun s3 q3 => hh pins σ' D ev s3 q3)
  have q := q.untr I.ok
  cases f with
  | next => exact wpAny_execs_nil q
  | brk => exact q
  | cont => exact q
  | ret u => exact q
theorem clause2 {C C' : Addr} {y y' : Str} {np pos np' pos' : Pos} {b0 b0' : Stmt} {suite suite' : List Stmt} {u u' : TS} (hex : X.ex = []) (hC : Own X.K C) (hg : Gl X y) (hm : X.mg y = some (.ref C)) (hsu : ∀ x ps n, PCh ps n (.ref x) → PSs (X.mrk x ps) (b0 :: suite) u)
    (hC' : Own X.K C') (hg' : Gl X y') (hm' : X.mg y' = some (.ref C')) (hsu' : ∀ x ps n, PCh ps n (.ref x) → PSs (X.mrk x ps) (b0' :: suite') u') (hne : C ≠ C') (hd : (y == ("__debug__" : Str)) = false := by decide) (hd' : (y' == ("__debug__" : Str)) = false := by decide) :
    ∀ (pins : List (Addr × Obj)) (σ : St) (D : Ends) (ev : Value) (s3 : Shared), AirAt X pins σ (c2 C u C' u' D σ) ev s3 → wpAny (model X.prog X.w) X.A (handleBy ev X.env [.ExceptHandler (some (.Name y np)) none (b0 :: suite) pos, .ExceptHandler (some (.Name y' np')) none (b0' :: suite') pos']) (SP X pins D) X.xe s3 := fun pins σ D ev s3 h => by
  refine clause (t := u) hex hC hg hm hsu (fun cls d H z => z.elim (fun z => ⟨C, z.1, hC⟩) fun z => ⟨C', z.1, hC'⟩) (fun d H z => z.elim (fun z => z.2) fun z => absurd (by injection z.1) hne) h (fun s3 h3 => ?_) hd
  refine clause (t := u') hex hC' hg' hm' hsu' (fun cls d H z => z.1.elim (fun w => absurd w.1 z.2) fun w => ⟨C', w.1, hC'⟩) (fun d H z => z.1.elim (fun w => absurd w.1 z.2) fun w => w.2) h3 (fun s4 h4 => ?_) hd'
  obtain ⟨_, _, _, _, _, _, _, _, _, _, _, _, ⟨z, n1⟩, n⟩ := h4
  rcases z with z | z
  · exact absurd z.1 n1
  · exact absurd z.1 n
end
section
variable {X : Cx} {k : Nat} {f : Addr} {fd : FuncData} {ps : List Str} {sp : Sp} {dvs : List V} {ds : List Value} {E : St → XK} {x : Str} {p pos : Pos} {e : Expr} {es : List Expr} {t : TA}
def tCallS (sp : Sp) (dvs : List V) (E : St → XK) (t : TA) : TE := fun σ H Q => t σ H fun vs H1 => sp (vs ++ dvs) H1 Q (E σ)
theorem run_fnS {pins : List (Addr × Obj)} {σ : St} {H : Hp} {s : Shared} {Q : VK} {us : List Value} {vs : List V} (F : FnOk X.prog X.w X.K X.mg X.base (CX1 X.prog X.w) k f fd ps sp) (hr : Room k X.A) (hb : Binds X.K fd ps ds) (hd : Vals dvs ds) (hx : PassesS X E)
    (I : Inv X pins σ H s) (r : Vals vs us) (h : sp (vs ++ dvs) H Q (E σ)) : wpAny (model X.prog X.w) X.A (call (.ref f) us) (EP X pins σ Q) X.xe s := by
  have r2 : Vals (vs ++ dvs) (us ++ ds) := r.append hd
  have hl : (us ++ ds).length = ps.length := by rw [← r2.length]; exact F.len _ _ _ _ h
  refine wpAny_call (codeAny_mono (F.run X.A X.stack s H ⟨us, []⟩ (us ++ ds) (vs ++ dvs) Q (E σ) hr I.env0 (hb s us I.kIn hl) r2 h) fun r s' hq => ?_)
  cases r with
  | error e => exact hx pins σ H s e s' I hq
  | ok fl =>
    cases fl with
    | ret u => exact I.after hq
    | next => exact False.elim hq
    | brk => exact False.elim hq
    | cont => exact False.elim hq
theorem pe_callS (F : FnOk X.prog X.w X.K X.mg X.base (CX1 X.prog X.w) k f fd ps sp) (hr : Room k X.A) (hg : Gl X x) (hm : X.mg x = some (.ref f)) (hk : PySem.W.keepIn X.K (.ref f) = true) (hb : Binds X.K fd ps ds) (hd : Vals dvs ds) (hx : PassesS X E)
    (ha : PA X (e :: es) t) (hdb : (x == ("__debug__" : Str)) = false := by decide) (he : starEach (e :: es) X.env = (false, eval e X.env) :: starEach es X.env := by rfl) (hpl : (backTo pos (starEach es X.env)).any (·.1) = false := by rfl) :
    PE X (.Call (.Name x p) (e :: es) [] pos) (tCallS sp dvs E t) := by
  intro pins s σ H Q I h
  refine wpAny_Call_Name_kw (ld_glob I hg hm ?_ hdb)
  refine PySem.W.callWith_K (h₀ := X.base) I.ok.mod.kin hk (thn (ha pos pins s σ H _ I h) fun us s1 ⟨vs, H1, I1, r, q⟩ => ⟨I1.kIn, ?_⟩) he hpl
  exact run_fnS F hr hb hd hx I1 r q
end
end L2
namespace L2
open PySem PySem.Spec PyProof.Rows
theorem entry_unchain : entryFor table "proto.unchain" = some Builtin.«proto.unchain» := entryFor_of_fast (by kernel_rfl)
section
variable {prog : Program} {w : World} {A : Around} {s : Shared} {H : Hp} {a : Addr}
theorem unchain_ok {R : Result → Shared → Prop} (hR : R (.ok (.ret .none)) s) : ∀ (m : Nat) (o slow : Value) (tg : Bool) (ns : Nat), Chn s.heap H [a] (m + 1) o → Chn s.heap H [a] ns slow → m + 1 ≤ ns → codeAny (model prog w) A (.builtin "proto.unchain" ⟨[.ref a, o, slow, .bool tg], []⟩) R s := by
  intro m
  induction m with
  | zero =>
    intro o slow tg ns ho hs hm
    cases ho with
    | cons g d f2 hn nav t =>
      cases t
      refine codeAny_builtin entry_unchain ?_
      unfold Builtin.«proto.unchain»
      refine wpAny_bind (wpAny_field g d f2 ?_)
      rw [if_pos (by decide)]
      wp_walk
      exact hR
  | succ m ih =>
    intro o slow tg ns ho hs hm
    cases ho with
    | cons g d f2 hn nav t =>
      cases id t with
      | @cons _ a2 _ _ _ g2 d2 f22 hn2 nav2 t2 =>
        refine codeAny_builtin entry_unchain ?_
        unfold Builtin.«proto.unchain»
        refine wpAny_bind (wpAny_field g d f2 ?_)
        rw [if_neg (by simp)]
        have n1 : (Value.ref a2 == Value.ref a) = false := by simp; intro z; exact nav2 (by rw [z]; simp)
        rw [n1, if_neg (by decide)]
        by_cases q : (Value.ref a2 == slow) = true
        · rw [q, if_pos rfl]
          wp_walk
          exact hR
        · rw [if_neg q]
          cases tg with
          | false =>
            rw [if_neg (by decide)]
            refine wpAny_bind (wpAny_pure (wpAny_pure ⟨Code.quiet_builtin _ (by decide +kernel), ?_⟩))
            exact ih _ slow true ns t hs (by omega)
          | true =>
            rw [if_pos rfl]
            cases hs with
            | nil => omega
            | cons j1 j2 j3 j4 j5 j6 =>
              refine wpAny_bind (wpAny_field j1 j2 j3 (wpAny_pure ⟨Code.quiet_builtin _ (by decide +kernel), ?_⟩))
              exact ih _ _ false _ t j6 (by omega)
theorem raiseNew_in {α : Type} {E : Value → Shared → Prop} {Q : α → Shared → Prop} {h : Addr} {oa : Obj} {vs : Array Value} {n : Nat} (hh : A.handled = some (.ref h)) (ga : s.heap.get? a = some oa) (da : oa.data = .fields vs) (z2 : 2 < vs.size) (ch : Chn s.heap H [a] n (.ref h)) (k : E (.ref a) { s with heap := s.heap.update a (Obj.mapFields (·.setIfInBounds 2 (.ref h))) }) :
    wpAny (model prog w) A (raiseNew (.ref a) : Sem α) Q E s := by
  unfold raiseNew
  refine wpAny_bind (wpAny_handled ?_)
  rw [hh]
  have ne : (Value.ref h != Value.ref a) = true := by
    cases ch with
    | cons _ _ _ _ nav _ =>
      simp
      intro z
      exact nav (by rw [z]; simp)
  simp only [ne, if_true]
  refine wpAny_bind (wpAny_holding (wpAny_runValue ?_))
  cases ch with
  | cons j1 j2 j3 j4 j5 j6 =>
    refine unchain_ok ?_ _ _ _ _ _ (.cons j1 j2 j3 j4 j5 j6) (.cons j1 j2 j3 j4 j5 j6) (Nat.le_refl _)
    exact wpAny_bind (wpAny_setField (x := .ref h) ga da z2 (wpAny_throw k))
end
theorem mem_none {h : Heap} {a : Addr} {o : Obj} {e : Addr} (g : h.get? a = some o) (n : h.get? e = none) : a ∉ [e] := fun z => by
  rcases List.mem_cons.mp z with z | z
  · rw [← z, g] at n; cases n
  · cases z
section
variable {X : Cx} {E : XK}
theorem eval_exc {pins : List (Addr × Obj)} {σ : St} {H : Hp} {s : Shared} {x : Str} {C : Addr} {np cpos : Pos} {Q : Value → Shared → Prop} {Ee : Value → Shared → Prop} (I : Inv X pins σ H s) (hg : Gl X x) (hm : X.mg x = some (.ref C)) (hC : ExcK X.K C)
    (k : ∀ h' e, Heap.MadeExcOf s.heap h' e (.ref C) [] → Q (.ref e) { s with heap := h' }) (hd : (x == ("__debug__" : Str)) = false := by decide) : wpAny (model X.prog X.w) X.A (eval (.Call (.Name x np) [] [] cpos) X.env) Q Ee s := by
  obtain ⟨bm, N, nm, qn, bs, hdct, sn, sub, ab, col, dd, k0, k1, k2, k3, k5, mN, g1, g2, g3, g4⟩ := hC.obj I.kIn
  refine wpAny_Call_ofName (ld_glob I hg hm ?_ hd)
  unfold callWith
  refine wpAny_bind (wpAny_holding (evalArgs_empty (wpAny_bind (wpAny_standAt ?_))))
  obtain ⟨hp, g, d, tk, os⟩ := s
  simp only [starEach, backTo, List.any_nil]
  refine wpAny_bind (wpAny_keeperOf_exc g1 ?_)
  refine wpAny_bind (wpAny_call_exc_subT F.excBase_Exception g4 g1 g2 g3 fun h' e hx => wpAny_bind (wpAny_holding (wpAny_point (wpAny_pure ?_))))
  exact k h' e hx
theorem ps_raiseN {x : Str} {C : Addr} {np cpos pos cp : Pos} {j} (hh : Hnd X) (hg : Gl X x) (hm : X.mg x = some (.ref C)) (hC : ExcK X.K C) (hr : RaiseTo X E) (hd : (x == ("__debug__" : Str)) = false := by decide) :
    PS X (.Raise (some (.Call (.Name x np) [] [] cpos)) (some (.Constant .none j cp)) pos) (tRaise E C) := by
  intro pins s σ H D I h
  rw [arm_exec_Raise]
  simp only [evalOpt, Option.map]
  refine wpAny_bind (wpAny_standAt ?_)
  unfold raiseStmt
  refine wpAny_bind (wpAny_bind (eval_exc I hg hm hC (fun h1 e hx => wpAny_bind (wpAny_standAt (wpAny_pure ?_))) hd))
  obtain ⟨bm, N, nm, qn, bs, hdct, sn, sub, ab, col, dd, k0, k1, k2, k3, k5, mN, g1, g2, g3, g4⟩ := hC.obj I.kIn
  have hcB : (Value.ref C :: bm).contains (.type "BaseException") = true := by rw [List.contains_cons, g4.hasType F.excBase_Exception.hasBase, Bool.or_true]
  obtain ⟨t, he, htn, ht⟩ := hx.there
  have hC1 := hx.keeps _ _ g1
  obtain ⟨hp, g, d, tk, os⟩ := s
  refine wpAny_bind (wpAny_holding (wpAny_bind (Constant_none (wpAny_bind (wpAny_standAt (wpAny_pure (wpAny_bind (wpAny_pure ?_))))))))
  repeat (first | with_reducible refine wpAny_loadPart_at he ?_ | with_reducible refine wpAny_loadPart_at hC1 ?_ | (with_reducible refine wpAny_isSubtype_exc hC1 ?_; rw [hcB]) | wp_step)
  have neC : e ≠ C := fun z => by have z3 := hx.new; rw [z, g1] at z3; cases z3
  have he2 := Heap.get?_update_self (Obj.mapFields (·.setIfInBounds 3 Value.none)) he rfl
  have hC2 := (Heap.get?_update_other h1 (Obj.mapFields (·.setIfInBounds 3 Value.none)) neC).trans hC1
  have kp2 : ∀ b o, hp.get? b = some o → (h1.update e (Obj.mapFields (·.setIfInBounds 3 Value.none))).get? b = some o := fun b o z => (Heap.get?_update_other _ _ (fun z2 : e = b => by have z3 := hx.new; rw [z2] at z3; exact absurd (z.symm.trans z3) (by simp))).trans (hx.keeps b o z)
  generalize h1.update e (Obj.mapFields (·.setIfInBounds 3 Value.none)) = h2 at *
  have he3 := Heap.get?_update_self (Obj.mapFields (·.setIfInBounds 4 (Value.bool true))) he2 rfl
  have hC3 := (Heap.get?_update_other h2 (Obj.mapFields (·.setIfInBounds 4 (Value.bool true))) neC).trans hC2
  have kp3 : ∀ b o, hp.get? b = some o → (h2.update e (Obj.mapFields (·.setIfInBounds 4 (Value.bool true)))).get? b = some o := fun b o z => (Heap.get?_update_other _ _ (fun z2 : e = b => by have z3 := hx.new; rw [z2] at z3; exact absurd (z.symm.trans z3) (by simp))).trans (kp2 b o z)
  generalize h2.update e (Obj.mapFields (·.setIfInBounds 4 (Value.bool true))) = h3 at *
  repeat (first | with_reducible refine wpAny_loadPart_at he3 ?_ | with_reducible refine wpAny_loadPart_at hC3 ?_ | (with_reducible refine wpAny_isSubtype_exc hC3 ?_; rw [hcB]) | wp_step)
  obtain ⟨hx1, ps, n, q1, q2, q3⟩ := hh
  have ch : ∀ av, (∀ p ∈ ps, p.1 ∉ av) → Chn hp H av n (.ref hx1) := fun av ha => q2.chn fun p hp' => ⟨(I.pin p (List.mem_append_left _ (q3 p hp'))).1, (I.pin p (List.mem_append_left _ (q3 p hp'))).2.1, ha p hp'⟩
  have che : Chn h3 H [e] n (.ref hx1) := (ch [e] fun p hp' => mem_none (I.pin p (List.mem_append_left _ (q3 p hp'))).1 hx.new).move fun a o vs z1 _ z3 z4 => ⟨kp3 _ _ z1, z3, z4⟩
  refine raiseNew_in (s := ⟨h3, g, d, tk, os⟩) q1 he3 rfl (by show 2 < 6; decide) che ?_
  refine hr pins σ H ⟨hp, g, d, tk, os⟩ _ e _ _ (.ref hx1) n I (fun b o z => ?_) hx.new (Heap.get?_update_self _ he3 rfl) rfl rfl rfl (ch [] fun p _ => by simp) h
  rw [Heap.get?_update_other _ _ (fun z2 : e = b => by have z3 := hx.new; rw [z2] at z3; exact absurd (z.symm.trans z3) (by simp))]
  exact kp3 b o z
end
section
variable {X : Cx} {pins ps : List (Addr × Obj)} {σ : St} {H : Hp} {s : Shared} {x : Addr} {E : XK}
theorem AirAt.to {ev : Value} (hair : AirTo X E) (h : AirAt X pins σ E ev s) : X.xe ev s := by
  obtain ⟨x, T, cls, c, fl, n, H, rfl, I, ap, ht, hq, he⟩ := h
  exact hair pins σ H s x T cls c fl n I ⟨(ap x (by simp)).1, (ap T (by simp)).1, (ap x (by simp)).2.2.2.2, (ap T (by simp)).2.2.2.2⟩ ht hq he
theorem air_first {e : Addr} {cls c fl : Value} {n : Nat} {l : List Env} {h1 h2 : Heap} (hex : X.ex = []) (I : Inv X pins σ H s) (kp : ∀ b o, s.heap.get? b = some o → h1.get? b = some o) (ne : s.heap.get? e = none) (hq : Chn s.heap H [] n c) (he : E cls none H)
    (o : OnV (PySem.W.hideAll s.heap (frs X.stack)) l e cls c fl h2) (up : h1.UpToSlots h2) : AirAt X pins σ E (.ref e) { s with heap := h2 } := by
  obtain ⟨k1, k2, k3, oe', vs', T', oT', ts', t1, t2, t3, t4, t5, t6, t7, t8, t9⟩ := o
  have slot : ∀ b o, s.heap.get? b = some o → b ∈ frs X.stack → (∀ vs, o.data ≠ .fields vs) ∧ ∃ sl, h2.get? b = some { o with slots := sl } := fun b o q hm => by
    obtain ⟨_, o2, q2, nf⟩ := I.stack.mem hm
    rw [q] at q2; cases q2
    exact ⟨nf, up b o (kp b o q) nf⟩
  have keep : ∀ b o, s.heap.get? b = some o → b ∉ frs X.stack → h2.get? b = some o := fun b o q nb => k1 b o (PySem.W.hideAll_get _ q nb)
  have new : s.heap.get? T' = none := by
    cases q : s.heap.get? T' with
    | none => rfl
    | some o =>
      by_cases hm : T' ∈ frs X.stack
      · obtain ⟨nf, sl, z⟩ := slot T' o q hm
        rw [t7] at z
        cases z
        exact absurd t8 (nf ts')
      · have := PySem.W.hideAll_get _ q hm
        rw [t5] at this; cases this
  have ap : ∀ b, s.heap.get? b = none → X.s_0.heap.get? b = none ∧ b ≠ X.env.locals ∧ (∀ y c, X.env.cells.lookup y = some c → c ≠ b) ∧ (∀ p ∈ X.pn ++ pins, p.1 ≠ b) ∧ H b = none := fun b q => by
    obtain ⟨z1, z2, z3, z4⟩ := I.apart hex q
    exact ⟨z1, z2, z3, z4, hok_none I.hok q⟩
  have Im : Inv X pins σ H { s with heap := h2 } := I.moved [] (fun b hb => absurd hb (by simp)) (fun b o q nb _ => keep b o q nb) (fun b o q hm => (slot b o q hm).2)
  refine ⟨e, T', cls, c, fl, n, H, rfl, Im, two_cases (ap e ne) (ap T' new), ⟨oe', vs', oT', ts', t1, t2, t3, t4, t6, t7, t8, t9⟩, hq.move fun a o vs g1 g2 g3 _ => ⟨keep a o g1 (fun hm => by obtain ⟨_, o2, q2, nf⟩ := I.stack.mem hm; rw [g1] at q2; cases q2; exact nf vs g2), g3, fun hm => ?_⟩, he⟩
  rcases List.mem_cons.mp hm with z | hm
  · rw [← z, g1] at ne; cases ne
  · rcases List.mem_cons.mp hm with z | hm
    · rw [← z, g1] at new; cases new
    · cases hm
theorem okM (hh : X.A.handled = none) (ok : (X.mrk x ps).Ok) : X.Ok := ⟨ok.mod, ok.kind, ok.glob, ok.blt, ok.above, ok.inj, ok.has, ok.cab, (fun _ => hh), ok.frames, ok.stk, ok.exf, ok.bs, ok.bsz, ok.noex, ok.exfs, ok.funs, ok.frf⟩
theorem raiseM (hh : X.A.handled = none) (hex : X.ex = []) (hst : X.stack = X.env :: X.outer) (hfr : X.env.frame = some X.env.locals) (hair : AirTo X E) : RaiseTo (X.mrk x ps) E := by
  intro pins σ H s h1 e oe vs c n I kp ne ge de f1 f2 hq he
  have I := I.unmrk (okM hh I.ok)
  have nh : (PySem.W.hideAll s.heap (frs X.stack)).get? e = none := by
    cases q : (PySem.W.hideAll s.heap (frs X.stack)).get? e with
    | none => rfl
    | some o => rw [PySem.W.of_hideAll _ q] at ne; cases ne
  have ff : h1.FunFrames (PySem.W.hideAll s.heap (frs X.stack)) X.stack := (PySem.W.funFrames_hide I.stack (fun env henv a ha => mem_frs henv ha)).of_keeps fun b o q nf => ⟨o, kp b o q, rfl⟩
  exact note_first (s := { s with heap := h1 }) (by show X.A.frames = _; rw [I.ok.frames, hst]) hfr (by rw [← hst]; exact ff) ge (fun b o q => kp b o (PySem.W.of_hideAll _ q)) nh de f1 f2 fun h2 o2 up =>
    air_back hex (air_first (s := s) (h1 := h1) hex I kp ne hq he o2 up) fun s3 q3 => q3.to hair
end
section
variable {X : Cx} {k : Nat} {f C : Addr} {fd : FuncData} {ps : List Str} {sp : Sp} {E : XK} {x m : Str} {p pos apos : Pos} {e o : Expr} {es : List Expr} {ta : TE} {t : TA}
end
end L2
namespace L2
open PySem PySem.Spec PyProof.Rows
section
variable {X : Cx}
theorem ps_setLcE {E : XK} {i : Nat} {y : Str} {py : Pos} {elt tg iter : Expr} {ifs : List Expr} {scope : Scope} {own : List (Str × Nat)} {pos spos : Pos} {wi : TI} {g : TG} {tt : TT} {te : TE} (hex : X.ex = []) (hst : X.stack = X.env :: X.outer) (hfr : X.env.frame = some X.env.locals) (hair : AirTo X E) (hc : X.calm = true) (hN : X.N.Nodup) (hy : X.N[i]? = some y) (hyl : X.env.scope.names.lookup y = some .local)
    (hsw : swapsWith (.ListComp elt [⟨tg, iter, ifs, 0⟩] scope pos) (some (.Name y py)) spos.line X.env = pure true) (hi : PI X tg iter wi) (ok : BlkOk X.N X.env.scope scope own)
    (hg : ∀ (s : Shared) (H : Hp) (C : Addr) (cl : List (Str × Addr)) (fp : List Addr) (xb : Value → Shared → Prop), PG ((X.blk s H scope (compEnvC scope cl C X.env) fp).wish xb) tg g) (ht : ∀ (s : Shared) (H : Hp) (C : Addr) (cl : List (Str × Addr)) (fp : List Addr) (xb : Value → Shared → Prop), PTs ((X.blk s H scope (compEnvC scope cl C X.env) fp).wish xb) ifs tt)
    (he : ∀ (s : Shared) (H : Hp) (C : Addr) (cl : List (Str × Addr)) (fp : List Addr) (xb : Value → Shared → Prop), Passes (CX1 X.prog X.w) ((X.blk s H scope (compEnvC scope cl C X.env) fp).wish xb) E → PE ((X.blk s H scope (compEnvC scope cl C X.env) fp).wish xb) elt te) (hs : ∀ x, foldedSetIterable iter X.env x = pure x := by intro _; rfl) :
    PS X (.Assign [.Name y py] (.ListComp elt [⟨tg, iter, ifs, 0⟩] scope pos) spos) (tAsg (tLc wi g tt te (own.map (·.2))) (gName i)) := by
  intro pins s σ H D I h
  rw [exec_Assign_Name_used _ _ _ _ hsw]
  refine wpAny_bind (wpAny_standAt (wpAny_bind ?_))
  show wpAny _ X.A (do let _ ← comprehension (.ListComp elt [⟨tg, iter, ifs, 0⟩] scope pos) scope X.env (firstIterPos [⟨tg, iter, ifs, 0⟩] pos) (newList []) false (eval iter X.env) (some (assign (.Name y py) X.env))) _ _ s
  have h : tLc wi g tt te (own.map (·.2)) σ H (fun x H1 => gName i x σ H1 D.nx) := h
  refine wpAny_bind (thn (lc_coreE (Qf := fun _ s' => SP X pins D .next s') hex hst hfr hair hc hN I hi ok hg ht he hs h fun L C s' m H' I' q hn f => ?_) fun _ s' hq => wpAny_pure (wpAny_pure hq))
  show wpAny _ _ (assign (.Name y py) X.env (.ref L)) _ _ _
  refine wpAny_assign_Name (store_ok2 (v := V.ref L) I' hN hy (.inl hyl) rfl (fun s2 I2 ⟨a, sb, ha⟩ => ?_) (.inr hyl))
  obtain ⟨f0, f1, f2, f3, f4, f5⟩ := f
  have haC : C ≠ a := by
    rcases ha with z | z
    · rw [z]; exact f1
    · exact fun e => f4 y a z e.symm
  refine ⟨m, hn.sameBut sb haC, fun h3 sb3 => ?_⟩
  exact ⟨_, H', I2.turned (t' := s2.toks) (fun b o hb e => (sb3.2 b hb).trans e) f0 f1 f3 f4 f5, q⟩
end
end L2
namespace L2
open PySem PySem.Spec PyProof.Rows
section
variable {X : Cx}
theorem air_pass {E : XK} {pins : List (Addr × Obj)} {σ : St} {s : Shared} {ev : Value} {what : String} {α : Type} {Q : α → Shared → Prop} (hex : X.ex = []) (hair : AirTo X E) (h : AirAt X pins σ E ev s) : wpAny (model X.prog X.w) X.A (PySem.passOn what ev X.env) Q X.xe s := by
  obtain ⟨x, T, cls, c, fl, n, H, rfl, I, ap, ht, hq, he⟩ := id h
  obtain ⟨oe, vs, oT, ts, g1, g2, g3, g4, _⟩ := ht
  unfold PySem.passOn
  refine wpAny_bind (wpAny_field g1 g3 g4 ?_)
  rw [if_neg (by simp)]
  refine wpAny_bind (air_flight hex h fun s3 q3 => wpAny_throw (q3.to hair))
def c1P (K : PySem.W.Frag) (C : Addr) (u : TS) (E' : XK) : Ends → St → XK := fun D σ cls d H => (cls = .ref C ∧ u D σ H) ∨ ((∃ C', cls = .ref C' ∧ Own K C') ∧ cls ≠ .ref C ∧ E' cls d H)
theorem clause1P {E' : XK} {C : Addr} {y : Str} {np pos : Pos} {b0 : Stmt} {suite : List Stmt} {u : TS} (hex : X.ex = []) (hair : AirTo X E') (hC : Own X.K C) (hg : Gl X y) (hm : X.mg y = some (.ref C)) (hsu : ∀ x ps n, PCh ps n (.ref x) → PSs (X.mrk x ps) (b0 :: suite) u) (hd : (y == ("__debug__" : Str)) = false := by decide) :
    ∀ (pins : List (Addr × Obj)) (σ : St) (D : Ends) (ev : Value) (s3 : Shared), AirAt X pins σ (c1P X.K C u E' D σ) ev s3 → wpAny (model X.prog X.w) X.A (handleBy ev X.env [.ExceptHandler (some (.Name y np)) none (b0 :: suite) pos]) (SP X pins D) X.xe s3 := fun pins σ D ev s3 h => by
  refine clause (t := u) hex hC hg hm hsu (fun cls d H z => z.elim (fun z => ⟨C, z.1, hC⟩) fun z => z.1) (fun d H z => z.elim (fun z => z.2) fun z => absurd rfl z.2.1) h (fun s3 h3 => ?_) hd
  refine wpAny_handleBy_nil (air_pass hex hair (h3.imp fun cls d H z => ?_))
  rcases z.1 with w | w
  · exact absurd w.1 z.2
  · exact w.2.2
end
end L2
namespace Wg
def fromN (l : List Nat) : Nat := l.foldl (fun n c => 256 * n + c) 0
end Wg
namespace Wg
def ip : List Int → List Int → Int
  | a :: l, b :: m => a * b + ip l m
  | _, _ => 0
section
variable {v1 v2 v3 v4 : List Int}
end
section
variable {g11 g12 g13 g14 g22 g23 g24 g33 g34 g44 : Int}
end
end Wg
namespace Wg
open Sound
theorem foldl_add (l : List Int) : ∀ a : Int, l.foldl (fun (a b : Int) => a + b) a = a + l.foldl (fun (a b : Int) => a + b) 0 := by
  induction l with
  | nil => intro a; simp
  | cons x l ih => intro a; simp only [List.foldl_cons]; rw [ih (a + x), ih (0 + x)]; omega
theorem sumOf_cons (x : Int) (l : List Int) : sumOf (x :: l) = x + sumOf l := by
  unfold sumOf; rw [List.foldl_cons, foldl_add]; omega
theorem sumOf_zip : ∀ l m : List Int, sumOf (List.zipWith (fun (a b : Int) => a * b) l m) = ip l m
  | [], _ => by simp [sumOf, ip]
  | _ :: _, [] => by simp [sumOf, ip]
  | a :: l, b :: m => by rw [List.zipWith_cons_cons, sumOf_cons, sumOf_zip l m]; rfl
end Wg
namespace Wg
open PySem
theorem and_lo (n m : Nat) : (n &&& m) % 2 = 0 ↔ n % 2 = 0 ∨ m % 2 = 0 := by
  have h := congrArg (· = true) (Nat.testBit_and n m 0)
  simp only [Nat.testBit_zero, Bool.and_eq_true, decide_eq_true_eq, eq_iff_iff] at h
  omega
theorem or_lo (n m : Nat) : (n ||| m) % 2 = 0 ↔ n % 2 = 0 ∧ m % 2 = 0 := by
  have h := congrArg (· = true) (Nat.testBit_or n m 0)
  simp only [Nat.testBit_zero, Bool.or_eq_true, decide_eq_true_eq, eq_iff_iff] at h
  omega
theorem and_hi (n m : Nat) : (n &&& m) / 2 = n / 2 &&& m / 2 := by
  apply Nat.eq_of_testBit_eq; intro i
  rw [Nat.testBit_and, Nat.testBit_div_two, Nat.testBit_div_two, Nat.testBit_div_two, Nat.testBit_and]
theorem or_hi (n m : Nat) : (n ||| m) / 2 = n / 2 ||| m / 2 := by
  apply Nat.eq_of_testBit_eq; intro i
  rw [Nat.testBit_or, Nat.testBit_div_two, Nat.testBit_div_two, Nat.testBit_div_two, Nat.testBit_or]
theorem or_pp {x y : Int} (hx : 0 ≤ x) (hy : 0 ≤ y) : Builtin.bitOr x y = ((x.toNat ||| y.toNat : Nat) : Int) := by
  unfold Builtin.bitOr Builtin.bitAnd Builtin.bitNot
  have h1 : decide (0 ≤ -x - 1) = false := by simp; omega
  have h2 : decide (0 ≤ -y - 1) = false := by simp; omega
  simp only [h1, h2]
  have e1 : (-(-x - 1) - 1).toNat = x.toNat := by congr 1; omega
  have e2 : (-(-y - 1) - 1).toNat = y.toNat := by congr 1; omega
  rw [e1, e2]; omega
end Wg
namespace Wg
open PySem Sound
def bl (n : Nat) : Nat := if n = 0 then 0 else n.log2 + 1
theorem bl_int (n : Nat) : Builtin.Int.intBits (n : Int) = bl n := by
  unfold Builtin.Int.intBits bl
  by_cases h : n = 0
  · subst h; rfl
  · rw [if_neg h, if_neg (by simpa using h), Int.natAbs_natCast]
theorem bl_le {n v : Nat} (h : n < 2 ^ v) : bl n ≤ v := by
  unfold bl
  by_cases h0 : n = 0
  · rw [if_pos h0]; exact Nat.zero_le _
  · rw [if_neg h0]
    exact (Nat.log2_lt h0).mpr h
end Wg
namespace Wg
open PySem Sound
def canSplit (n p r : Nat) : Bool := decide (r ≤ 6) && (decide (n / 2 ^ r * 2 ^ r = n) && decide (p ≤ n / 2 ^ r))
end Wg
namespace Wg
open PySem Sound
def atTot : List Int → List Int → Nat → Int
  | [], _, _ => 0
  | f :: fs, y, t => f * y.getD (t - 1) 0 + atTot fs y (t - 1)
def atP (a : List Int) (h : Nat) (y : List Int) (t : Nat) : Int := atTot a y t / 2 ^ h
theorem ip_take : ∀ a b : List Int, ip a (b.take a.length) = ip a b
  | [], b => by simp [ip]
  | x :: a, [] => by simp [ip]
  | x :: a, y :: b => by simp [ip, ip_take a b]
theorem take_getD {y : List Int} {t : Nat} (h : t < y.length) : (y.take (t + 1)).reverse = y.getD t 0 :: (y.take t).reverse := by
  rw [List.take_succ, List.getElem?_eq_getElem h, List.getD_eq_getElem?_getD, List.getElem?_eq_getElem h]
  simp
theorem ip_at : ∀ (a y : List Int) (t : Nat), t ≤ y.length → a.length ≤ t → ip a (y.take t).reverse = atTot a y t
  | [], y, t, _, _ => by simp [ip, atTot]
  | f :: fs, y, 0, h1, h2 => by simp at h2
  | f :: fs, y, t + 1, h1, h2 => by
    rw [take_getD (by omega)]
    simp only [ip, atTot, Nat.add_sub_cancel]
    rw [ip_at fs y t (by omega) (by simpa using h2)]
theorem guess_at {a y before : List Int} {h t : Nat} (h1 : t ≤ y.length) (h2 : a.length ≤ t) (hb : before.take a.length = (y.take t).reverse.take a.length) : guess a h before = atP a h y t := by
  unfold guess atP
  rw [sumOf_zip, ← ip_take, hb, ip_take, ip_at a y t h1 h2, Int.fdiv_eq_ediv_of_nonneg _ (Int.le_of_lt (Int.pow_pos (by decide)))]
def Bd (B : Int) (l : List Int) : Prop := ∀ x ∈ l, -B ≤ x ∧ x ≤ B
theorem u_len (n v : Nat) : (u n v).length = n := by simp [u]
end Wg
namespace Wg
open PySem
theorem value_foldl (l : Sound.Bits) : ∀ a : Nat, l.foldl (fun (n : Nat) (b : Bool) => 2 * n + (if b = true then 1 else 0)) a = a * 2 ^ l.length + Sound.value l := by
  induction l with
  | nil => intro a; simp [Sound.value]
  | cons b l ih =>
    intro a
    unfold Sound.value
    rw [List.foldl_cons, List.foldl_cons, ih, ih (2 * 0 + _), List.length_cons, Nat.pow_succ]
    generalize 2 ^ l.length = m
    rw [Nat.add_mul, Nat.add_mul]
    have e1 : 2 * a * m = a * (m * 2) := by rw [Nat.mul_comm m 2, ← Nat.mul_assoc, Nat.mul_comm a 2]
    have e2 : 2 * 0 * m = 0 := by simp
    omega
theorem value_append (l m : Sound.Bits) : Sound.value (l ++ m) = Sound.value l * 2 ^ m.length + Sound.value m := by
  unfold Sound.value
  rw [List.foldl_append, value_foldl m]
  rfl
theorem value_cons (b : Bool) (l : Sound.Bits) : Sound.value (b :: l) = (if b = true then 1 else 0) * 2 ^ l.length + Sound.value l := by
  have := value_append [b] l
  rw [List.singleton_append] at this
  rw [this]
  cases b <;> rfl
theorem value_lt : ∀ l : Sound.Bits, Sound.value l < 2 ^ l.length
  | [] => by simp [Sound.value]
  | b :: l => by
    have := value_lt l
    rw [value_cons, List.length_cons, Nat.pow_succ]
    cases b <;> simp <;> omega
theorem u_succ (n v : Nat) : Sound.u (n + 1) v = v.testBit n :: Sound.u n v := by
  unfold Sound.u
  rw [List.range_succ_eq_map, List.map_cons, List.map_map]
  congr 1
  refine List.map_congr_left fun i hi => ?_
  show v.testBit (n + 1 - 1 - (i + 1)) = v.testBit (n - 1 - i)
  congr 1; omega
theorem value_u : ∀ n v : Nat, Sound.value (Sound.u n v) = v % 2 ^ n
  | 0, v => by simp [Sound.u, Sound.value, Nat.mod_one]
  | n + 1, v => by
    rw [u_succ, value_cons, value_u n v, u_len]
    have h := Nat.mod_mul (x := v) (a := 2 ^ n) (b := 2)
    have hb : v.testBit n = decide (v / 2 ^ n % 2 = 1) := by rw [Nat.testBit_eq_decide_div_mod_eq]
    rw [Nat.pow_succ, h, hb]
    rcases Nat.mod_two_eq_zero_or_one (v / 2 ^ n) with e | e
    · rw [e]; simp
    · rw [e]; simp; omega
theorem bitOr_nat (a b : Nat) : Builtin.bitOr (a : Int) (b : Int) = ((a ||| b : Nat) : Int) := by
  rw [or_pp (by omega) (by omega), Int.toNat_natCast, Int.toNat_natCast]
theorem bitAnd_nat (a b : Nat) : Builtin.bitAnd (a : Int) (b : Int) = ((a &&& b : Nat) : Int) := by
  unfold Builtin.bitAnd
  have h1 : decide (0 ≤ (a : Int)) = true := by simp
  have h2 : decide (0 ≤ (b : Int)) = true := by simp
  simp only [h1, h2, Int.toNat_natCast]
theorem xor_lo (n m : Nat) : (n ^^^ m) % 2 = (n + m) % 2 := by
  have h := Nat.testBit_xor n m 0
  simp only [Nat.testBit_zero] at h
  rcases Nat.mod_two_eq_zero_or_one n with a | a <;> rcases Nat.mod_two_eq_zero_or_one m with b | b <;> rw [a, b] at h
  · have : ¬ (n ^^^ m) % 2 = 1 := of_decide_eq_false h
    omega
  · have : (n ^^^ m) % 2 = 1 := of_decide_eq_true h
    omega
  · have : (n ^^^ m) % 2 = 1 := of_decide_eq_true h
    omega
  · have : ¬ (n ^^^ m) % 2 = 1 := of_decide_eq_false h
    omega
theorem xor_hi (n m : Nat) : (n ^^^ m) / 2 = n / 2 ^^^ m / 2 := by
  apply Nat.eq_of_testBit_eq; intro i
  rw [Nat.testBit_xor, Nat.testBit_div_two, Nat.testBit_div_two, Nat.testBit_div_two, Nat.testBit_xor]
theorem or_xor : ∀ (k n m : Nat), n ≤ k → m ≤ k → (n ||| m) = (n ^^^ m) + (n &&& m)
  | 0, n, m, h1, h2 => by
    have : n = 0 := by omega
    have : m = 0 := by omega
    subst n m; rfl
  | k + 1, n, m, h1, h2 => by
    by_cases h0 : n = 0 ∧ m = 0
    · obtain ⟨rfl, rfl⟩ := h0; rfl
    have ih := or_xor k (n / 2) (m / 2) (by omega) (by omega)
    have a1 := or_lo n m
    have a2 := xor_lo n m
    have a3 := and_lo n m
    have b1 := or_hi n m
    have b2 := xor_hi n m
    have b3 := and_hi n m
    omega
theorem bitXor_nat (a b : Nat) : Builtin.bitXor (a : Int) (b : Int) = ((a ^^^ b : Nat) : Int) := by
  unfold Builtin.bitXor
  rw [bitOr_nat, bitAnd_nat, or_xor (max a b) a b (by omega) (by omega)]
  omega
theorem mask (x : Int) (w : Nat) : Builtin.bitAnd x ((2 ^ w : Int) - 1) = x % 2 ^ w := by
  have hp : 0 < 2 ^ w := Nat.two_pow_pos w
  have e2 : ((2 : Int) ^ w) = ((2 ^ w : Nat) : Int) := by simp
  have e1 : (2 : Int) ^ w - 1 = ((2 ^ w - 1 : Nat) : Int) := by rw [e2]; omega
  rcases Int.lt_or_le x 0 with hx | hx
  · unfold Builtin.bitAnd Builtin.bitNot
    have h1 : decide (0 ≤ x) = false := by simp; omega
    have h2 : decide (0 ≤ (2 : Int) ^ w - 1) = true := by rw [e1]; simp
    simp only [h1, h2]
    rw [e1, Int.toNat_natCast, Nat.and_comm, Nat.and_two_pow_sub_one_eq_mod]
    generalize hm : (-x - 1).toNat = m
    have hd := Nat.div_add_mod m (2 ^ w)
    have hlt := Nat.mod_lt m hp
    rw [e2]
    have ex : x = ((2 ^ w - 1 - m % 2 ^ w : Nat) : Int) + ((2 ^ w : Nat) : Int) * (-((m / 2 ^ w : Nat) : Int) - 1) := by
      have : ((2 ^ w : Nat) : Int) * (-((m / 2 ^ w : Nat) : Int) - 1) = -((2 ^ w * (m / 2 ^ w) : Nat) : Int) - ((2 ^ w : Nat) : Int) := by
        rw [Int.mul_sub, Int.mul_neg, ← Int.natCast_mul, Int.mul_one]
      rw [this]
      omega
    have : x % ((2 ^ w : Nat) : Int) = ((2 ^ w - 1 - m % 2 ^ w : Nat) : Int) := by
      rw [ex, Int.add_mul_emod_self_left]
      exact Int.emod_eq_of_lt (by omega) (by omega)
    rw [this]
    omega
  · obtain ⟨n, rfl⟩ := Int.eq_ofNat_of_zero_le hx
    rw [e1, bitAnd_nat, Nat.and_two_pow_sub_one_eq_mod, e2]
    simp
end Wg
namespace Wg
open PySem
def crcStepP (p : Nat) : Nat := if 65535 < 2 * p then 2 * p ^^^ 69665 else 2 * p
def crcByteP (c b : Nat) : Nat := (List.range 8).foldl (fun p _ => crcStepP p) (c ^^^ (b * 256))
def crcP (l : List Nat) : Nat := l.foldl crcByteP 65535
def stepS (c : Nat) (x : Bool) : Nat := let d := 2 * c % 65536
  if (c.testBit 15 != x) = true then d ^^^ 0x1021 else d
theorem tb_mod (q i : Nat) : (q % 65536).testBit i = (decide (i < 16) && q.testBit i) := by
  rw [show (65536 : Nat) = 2 ^ 16 by decide, Nat.testBit_mod_two_pow]
theorem flip16 {q : Nat} (h1 : 65536 ≤ q) (h2 : q < 131072) : q ^^^ 65536 = q % 65536 := by
  apply Nat.eq_of_testBit_eq
  intro i
  rw [Nat.testBit_xor, tb_mod, show (65536 : Nat) = 2 ^ 16 by decide, Nat.testBit_two_pow]
  rcases Nat.lt_trichotomy i 16 with h | h | h
  · rw [decide_eq_true h, decide_eq_false (by omega)]; simp
  · subst h
    have : q.testBit 16 = true := by
      rw [Nat.testBit_eq_decide_div_mod_eq]
      simp; omega
    rw [this]; simp
  · have : q.testBit i = false := Nat.testBit_lt_two_pow (Nat.lt_of_lt_of_le h2 (by rw [show (131072 : Nat) = 2 ^ 17 by decide]; exact Nat.pow_le_pow_right (by decide) h))
    rw [this, decide_eq_false (by omega), decide_eq_false (by omega)]; rfl
theorem dbl_xor (a b : Nat) : 2 * (a ^^^ b) % 65536 = (2 * a % 65536) ^^^ (2 * b % 65536) := by
  apply Nat.eq_of_testBit_eq
  intro i
  rw [Nat.testBit_xor, tb_mod, tb_mod, tb_mod]
  cases i with
  | zero => simp [Nat.testBit_zero]
  | succ i =>
    have e : ∀ x : Nat, (2 * x).testBit (i + 1) = x.testBit i := fun x => by
      rw [Nat.testBit_succ]; congr 1; omega
    rw [e, e, e, Nat.testBit_xor]
    cases decide (i + 1 < 16) <;> simp
theorem tb15 {p : Nat} (h : p < 65536) : p.testBit 15 = decide (65535 < 2 * p) := by
  rw [Nat.testBit_eq_decide_div_mod_eq]
  have : p / 2 ^ 15 = p / 32768 := rfl
  rw [this, Bool.eq_iff_iff, decide_eq_true_eq, decide_eq_true_eq]; omega
theorem xor_lt16 {a b : Nat} (h1 : a < 65536) (h2 : b < 65536) : a ^^^ b < 65536 := Nat.xor_lt_two_pow (n := 16) h1 h2
theorem stepS_lt {c : Nat} (x : Bool) : stepS c x < 65536 := by
  unfold stepS
  simp only
  split
  · exact xor_lt16 (Nat.mod_lt _ (by decide)) (by decide)
  · exact Nat.mod_lt _ (by decide)
theorem stepP {s r : Nat} (hs : s < 65536) (hr : r < 256) : crcStepP (s ^^^ (r * 256)) = stepS s (r.testBit 7) ^^^ ((2 * r % 256) * 256) := by
  have hp : s ^^^ (r * 256) < 65536 := xor_lt16 hs (by omega)
  have hb : (s ^^^ (r * 256)).testBit 15 = (s.testBit 15 != r.testBit 7) := by
    rw [Nat.testBit_xor, show r * 256 = 2 ^ 8 * r by omega, Nat.testBit_two_pow_mul]
    simp
  have hd : 2 * (s ^^^ (r * 256)) % 65536 = (2 * s % 65536) ^^^ ((2 * r % 256) * 256) := by
    rw [dbl_xor]
    congr 1; omega
  have h15 := tb15 hp
  unfold crcStepP stepS
  simp only
  rw [← hb, h15]
  by_cases hc : 65535 < 2 * (s ^^^ (r * 256))
  · rw [if_pos hc, if_pos (decide_eq_true hc)]
    have e : (69665 : Nat) = 65536 ^^^ 4129 := by decide
    rw [e, ← Nat.xor_assoc, flip16 (by omega) (by omega), hd, show (0x1021 : Nat) = 4129 by decide, Nat.xor_assoc, Nat.xor_assoc, Nat.xor_comm (2 * r % 256 * 256)]
  · rw [if_neg hc, if_neg (by simpa using hc), ← hd]
    omega
theorem byteP {c b : Nat} (hc : c < 65536) (hb : b < 256) : crcByteP c b = (Sound.u 8 b).foldl stepS c ∧ crcByteP c b < 65536 := by
  have hu : Sound.u 8 b = [b.testBit 7, b.testBit 6, b.testBit 5, b.testBit 4, b.testBit 3, b.testBit 2, b.testBit 1, b.testBit 0] := rfl
  have tb : ∀ (x i : Nat), i < 7 → (2 * x % 256).testBit (i + 1) = x.testBit i := fun x i hi => by
    rw [show (256 : Nat) = 2 ^ 8 by decide, Nat.testBit_mod_two_pow, decide_eq_true (by omega), Nat.testBit_succ, Bool.true_and]
    congr 1; omega
  have lt : ∀ x : Nat, 2 * x % 256 < 256 := fun x => Nat.mod_lt _ (by decide)
  have h0 := stepP hc hb
  have h1 := stepP (stepS_lt (c := c) (b.testBit 7)) (lt b)
  have h2 := stepP (stepS_lt (c := stepS c (b.testBit 7)) ((2 * b % 256).testBit 7)) (lt (2 * b % 256))
  rw [tb b 6 (by omega)] at h1 h2
  have h3 := stepP (stepS_lt (c := stepS (stepS c (b.testBit 7)) (b.testBit 6)) ((2 * (2 * b % 256) % 256).testBit 7)) (lt (2 * (2 * b % 256) % 256))
  rw [tb _ 6 (by omega), tb _ 5 (by omega)] at h2 h3
  have h4 := stepP (stepS_lt (c := stepS (stepS (stepS c (b.testBit 7)) (b.testBit 6)) (b.testBit 5)) ((2 * (2 * (2 * b % 256) % 256) % 256).testBit 7)) (lt (2 * (2 * (2 * b % 256) % 256) % 256))
  rw [tb _ 6 (by omega), tb _ 5 (by omega), tb _ 4 (by omega)] at h3 h4
  have h5 := stepP (stepS_lt (c := stepS (stepS (stepS (stepS c (b.testBit 7)) (b.testBit 6)) (b.testBit 5)) (b.testBit 4)) ((2 * (2 * (2 * (2 * b % 256) % 256) % 256) % 256).testBit 7)) (lt (2 * (2 * (2 * (2 * b % 256) % 256) % 256) % 256))
  rw [tb _ 6 (by omega), tb _ 5 (by omega), tb _ 4 (by omega), tb _ 3 (by omega)] at h4 h5
  have h6 := stepP (stepS_lt (c := stepS (stepS (stepS (stepS (stepS c (b.testBit 7)) (b.testBit 6)) (b.testBit 5)) (b.testBit 4)) (b.testBit 3)) ((2 * (2 * (2 * (2 * (2 * b % 256) % 256) % 256) % 256) % 256).testBit 7)) (lt (2 * (2 * (2 * (2 * (2 * b % 256) % 256) % 256) % 256) % 256))
  rw [tb _ 6 (by omega), tb _ 5 (by omega), tb _ 4 (by omega), tb _ 3 (by omega), tb _ 2 (by omega)] at h5 h6
  have h7 := stepP (stepS_lt (c := stepS (stepS (stepS (stepS (stepS (stepS c (b.testBit 7)) (b.testBit 6)) (b.testBit 5)) (b.testBit 4)) (b.testBit 3)) (b.testBit 2)) ((2 * (2 * (2 * (2 * (2 * (2 * b % 256) % 256) % 256) % 256) % 256) % 256).testBit 7)) (lt (2 * (2 * (2 * (2 * (2 * (2 * b % 256) % 256) % 256) % 256) % 256) % 256))
  rw [tb _ 6 (by omega), tb _ 5 (by omega), tb _ 4 (by omega), tb _ 3 (by omega), tb _ 2 (by omega), tb _ 1 (by omega)] at h6 h7
  rw [tb _ 6 (by omega), tb _ 5 (by omega), tb _ 4 (by omega), tb _ 3 (by omega), tb _ 2 (by omega), tb _ 1 (by omega), tb _ 0 (by omega)] at h7
  have hz : 2 * (2 * (2 * (2 * (2 * (2 * (2 * (2 * b % 256) % 256) % 256) % 256) % 256) % 256) % 256) % 256 = 0 := by omega
  have e : crcByteP c b = (Sound.u 8 b).foldl stepS c := by
    unfold crcByteP
    rw [show List.range 8 = [0, 1, 2, 3, 4, 5, 6, 7] from rfl]
    simp only [List.foldl_cons, List.foldl_nil]
    rw [h0, h1, h2, h3, h4, h5, h6, h7, hz, hu]
    simp only [List.foldl_cons, List.foldl_nil, Nat.zero_mul, Nat.xor_zero]
  rw [e]
  refine ⟨rfl, ?_⟩
  rw [hu]
  simp only [List.foldl_cons, List.foldl_nil]
  exact stepS_lt _
theorem crc_eq (b : Sound.Bytes) : crcP (b.map UInt8.toNat) = Sound.crc16 b := by
  have key : ∀ (l : Sound.Bytes) (c : Nat), c < 65536 → (l.map UInt8.toNat).foldl crcByteP c = (Sound.bitsOf l).foldl stepS c := by
    intro l
    induction l with
    | nil => intro c _; rfl
    | cons x l ih =>
      intro c hc
      obtain ⟨h1, h2⟩ := byteP hc x.toNat_lt
      have e : Sound.bitsOf (x :: l) = Sound.u 8 x.toNat ++ Sound.bitsOf l := List.flatMap_cons
      rw [List.map_cons, List.foldl_cons, e, List.foldl_append, ← h1, ih _ h2]
  unfold crcP
  rw [key b 65535 (by decide)]
  rfl
end Wg
namespace Wg
open PySem
theorem bitsOf_cons (x : UInt8) (B : Sound.Bytes) : Sound.bitsOf (x :: B) = Sound.u 8 x.toNat ++ Sound.bitsOf B := List.flatMap_cons
theorem bitsOf_len : ∀ B : Sound.Bytes, (Sound.bitsOf B).length = 8 * B.length
  | [] => rfl
  | x :: B => by rw [bitsOf_cons, List.length_append, u_len, bitsOf_len B, List.length_cons]; omega
theorem fromN_cons (x : Nat) (l : List Nat) : fromN (x :: l) = x * 256 ^ l.length + fromN l := by
  have key : ∀ (l : List Nat) (a : Nat), l.foldl (fun n c => 256 * n + c) a = a * 256 ^ l.length + fromN l := by
    intro l
    induction l with
    | nil => intro a; simp [fromN]
    | cons y l ih =>
      intro a
      unfold fromN
      rw [List.foldl_cons, List.foldl_cons, ih, ih (256 * 0 + y), List.length_cons, Nat.pow_succ, Nat.add_mul, Nat.add_mul]
      have : 256 * a * 256 ^ l.length = a * (256 ^ l.length * 256) := by rw [Nat.mul_comm (256 ^ l.length), ← Nat.mul_assoc, Nat.mul_comm 256 a]
      omega
  show (x :: l).foldl _ 0 = _
  rw [List.foldl_cons, key]
  simp
theorem value_bits : ∀ B : Sound.Bytes, Sound.value (Sound.bitsOf B) = fromN (B.map UInt8.toNat)
  | [] => rfl
  | x :: B => by
    rw [bitsOf_cons, value_append, value_bits B, List.map_cons, fromN_cons, bitsOf_len, List.length_map]
    have h := x.toNat_lt
    rw [value_u, Nat.mod_eq_of_lt (by omega), Nat.pow_mul]
theorem bits_drop : ∀ (B : Sound.Bytes) (i : Nat), Sound.bitsOf (B.drop i) = (Sound.bitsOf B).drop (8 * i)
  | B, 0 => by simp
  | [], i + 1 => by simp [Sound.bitsOf]
  | x :: B, i + 1 => by
    rw [List.drop_succ_cons, bits_drop B i, bitsOf_cons, show 8 * (i + 1) = 8 + 8 * i by omega, ← List.drop_drop, List.drop_left' (u_len 8 _)]
theorem bits_take : ∀ (B : Sound.Bytes) (i : Nat), Sound.bitsOf (B.take i) = (Sound.bitsOf B).take (8 * i)
  | B, 0 => by simp [Sound.bitsOf]
  | [], i + 1 => by simp [Sound.bitsOf]
  | x :: B, i + 1 => by
    rw [List.take_succ_cons, bitsOf_cons, bits_take B i, bitsOf_cons, show 8 * (i + 1) = (Sound.u 8 x.toNat).length + 8 * i by rw [u_len]; omega, List.take_length_add_append]
theorem read_u {B : Sound.Bytes} {p n : Nat} (h : p + n ≤ 8 * B.length) :
    fromN (((B.drop (p / 8)).take ((p + n + 7) / 8 - p / 8)).map UInt8.toNat) / 2 ^ (8 * ((p + n + 7) / 8) - (p + n)) % 2 ^ n = Sound.value (((Sound.bitsOf B).drop p).take n) := by
  rw [← value_bits, bits_take, bits_drop]
  generalize hj : (p + n + 7) / 8 = j
  generalize hi : p / 8 = i
  have hL := bitsOf_len B
  generalize Sound.bitsOf B = L at *
  have e : (L.drop (8 * i)).take (8 * (j - i)) = (L.drop (8 * i)).take (p - 8 * i) ++ ((L.drop p).take n ++ (L.drop (p + n)).take (8 * j - (p + n))) := by
    have h1 : 8 * (j - i) = (p - 8 * i) + (n + (8 * j - (p + n))) := by omega
    rw [h1, List.take_add, List.drop_drop, show 8 * i + (p - 8 * i) = p by omega, List.take_add, List.drop_drop]
  rw [e, value_append, value_append]
  have l1 : ((L.drop p).take n).length = n := by rw [List.length_take, List.length_drop]; omega
  have l2 : ((L.drop (p + n)).take (8 * j - (p + n))).length = 8 * j - (p + n) := by rw [List.length_take, List.length_drop]; omega
  have v1 := value_lt ((L.drop p).take n)
  have v2 := value_lt ((L.drop (p + n)).take (8 * j - (p + n)))
  rw [List.length_append, l1, l2]
  rw [l1] at v1
  rw [l2] at v2
  generalize Sound.value ((L.drop (8 * i)).take (p - 8 * i)) = x
  generalize Sound.value ((L.drop p).take n) = y at *
  generalize Sound.value ((L.drop (p + n)).take (8 * j - (p + n))) = z at *
  generalize 8 * j - (p + n) = m at *
  have e2 : x * 2 ^ (n + m) + (y * 2 ^ m + z) = (x * 2 ^ n + y) * 2 ^ m + z := by rw [Nat.pow_add, Nat.add_mul, Nat.mul_assoc]; omega
  rw [e2, Nat.add_comm _ z, Nat.add_mul_div_right _ _ (Nat.two_pow_pos m), Nat.div_eq_of_lt v2, Nat.zero_add, Nat.add_comm, Nat.add_mul_mod_self_right, Nat.mod_eq_of_lt v1]
theorem lacks_iff (n : Nat) (l : Sound.Bits) : Sound.lacks n l = true ↔ l.length < n := by
  unfold Sound.lacks
  rw [Bool.and_eq_true, decide_eq_true_eq, List.isEmpty_iff, List.drop_eq_nil_iff]
  omega
theorem svalue_eq (l : Sound.Bits) : Sound.svalue l = (Sound.value l : Int) - 2 * (if l.head? = some true then (2 ^ (l.length - 1) : Nat) else 0 : Nat) := by
  unfold Sound.svalue
  split
  · rename_i h
    cases l with
    | nil => cases h
    | cons b l =>
      rw [List.length_cons, Nat.add_sub_cancel]
      have : ((2 : Int) ^ (l.length + 1)) = 2 * ((2 ^ l.length : Nat) : Int) := by
        rw [Int.pow_succ, Int.mul_comm]; simp
      rw [this]
  · simp
theorem and_top {l : Sound.Bits} : (Sound.value l) &&& (2 ^ l.length / 2) = if l.head? = some true then 2 ^ (l.length - 1) else 0 := by
  cases l with
  | nil => rfl
  | cons b l =>
    rw [List.length_cons, Nat.add_sub_cancel, Nat.pow_succ, Nat.mul_div_cancel _ (by decide)]
    rw [value_cons]
    have v := value_lt l
    apply Nat.eq_of_testBit_eq
    intro i
    rw [Nat.testBit_and, Nat.testBit_two_pow]
    have hh : ((if b = true then 1 else 0) * 2 ^ l.length + Sound.value l).testBit l.length = b := by
      have := Nat.testBit_two_pow_mul_add (if b = true then 1 else 0) v l.length
      rw [Nat.mul_comm, this, if_neg (Nat.lt_irrefl _), Nat.sub_self]
      cases b <;> rfl
    by_cases q : l.length = i
    · subst q
      rw [decide_eq_true rfl, Bool.and_true, hh]
      cases b <;> simp [Nat.testBit_two_pow]
    · rw [decide_eq_false q, Bool.and_false]
      cases b
      · simp
      · simp [Nat.testBit_two_pow, q]
end Wg
namespace Wg
open PySem PySem.Spec PyProof.Rows L2
def top (i : Nat) : Stmt := PySem.Challenge.pw_soundkeeping_s02_unframe.main.body.getD i (.Pass ⟨0, 0, 0, 0⟩)
abbrev s_crc16 : Stmt := top 5
abbrev s_is_form : Stmt := top 9
abbrev s_fits : Stmt := top 10
abbrev s_fixed_guess : Stmt := top 15
abbrev s_unfolded_rest : Stmt := top 21
abbrev s_can_split : Stmt := top 22
abbrev s_read_rests : Stmt := top 23
abbrev s_read_group : Stmt := top 24
abbrev s_read_plain : Stmt := top 25
abbrev s_order_of_kind : Stmt := top 33
abbrev s_read_part : Stmt := top 34
abbrev s_read_zeros : Stmt := top 35
abbrev s_read_plainly : Stmt := top 36
abbrev s_read_guessed : Stmt := top 37
abbrev s_joined_pair : Stmt := top 43
abbrev s_first_width : Stmt := top 44
abbrev s_second_width : Stmt := top 45
abbrev s_read_frame : Stmt := top 46
abbrev s_read_items : Stmt := top 47
abbrev s_read_channels : Stmt := top 48
abbrev s_read_pair : Stmt := top 49
abbrev s_read_end : Stmt := top 50
abbrev s_unframe : Stmt := top 52
abbrev s_BitReader_init : Stmt := inClass (top 4) 0
abbrev s_BitReader_unsigned : Stmt := inClass (top 4) 1
abbrev s_BitReader_signed : Stmt := inClass (top 4) 2
abbrev s_BitReader_run : Stmt := inClass (top 4) 3
abbrev s_Form_init : Stmt := inClass (top 8) 0
abbrev s_Guess_init : Stmt := inClass (top 14) 0
abbrev s_Guess_at : Stmt := inClass (top 14) 1
abbrev s_PartTaken_init : Stmt := inClass (top 32) 0
abbrev s_PartTaken_take : Stmt := inClass (top 32) 1
abbrev s_PartTaken_take_rest : Stmt := inClass (top 32) 2
abbrev s_Partner_init : Stmt := inClass (top 41) 0
abbrev s_Partner_judge : Stmt := inClass (top 41) 1
abbrev s_FrameTaken_init : Stmt := inClass (top 42) 0
set_option genInjectivity false in
structure Adr where
  f_crc16 : Addr
  d_crc16 : FuncData
  f_is_form : Addr
  d_is_form : FuncData
  f_fits : Addr
  d_fits : FuncData
  f_fixed_guess : Addr
  d_fixed_guess : FuncData
  f_unfolded_rest : Addr
  d_unfolded_rest : FuncData
  f_can_split : Addr
  d_can_split : FuncData
  f_read_rests : Addr
  d_read_rests : FuncData
  f_read_group : Addr
  d_read_group : FuncData
  f_read_plain : Addr
  d_read_plain : FuncData
  f_order_of_kind : Addr
  d_order_of_kind : FuncData
  f_read_part : Addr
  d_read_part : FuncData
  f_read_zeros : Addr
  d_read_zeros : FuncData
  f_read_plainly : Addr
  d_read_plainly : FuncData
  f_read_guessed : Addr
  d_read_guessed : FuncData
  f_joined_pair : Addr
  d_joined_pair : FuncData
  f_first_width : Addr
  d_first_width : FuncData
  f_second_width : Addr
  d_second_width : FuncData
  f_read_frame : Addr
  d_read_frame : FuncData
  f_read_items : Addr
  d_read_items : FuncData
  f_read_channels : Addr
  d_read_channels : FuncData
  f_read_pair : Addr
  d_read_pair : FuncData
  f_read_end : Addr
  d_read_end : FuncData
  f_unframe : Addr
  d_unframe : FuncData
  f_BitReader_init : Addr
  d_BitReader_init : FuncData
  f_BitReader_unsigned : Addr
  d_BitReader_unsigned : FuncData
  f_BitReader_signed : Addr
  d_BitReader_signed : FuncData
  f_BitReader_run : Addr
  d_BitReader_run : FuncData
  f_Form_init : Addr
  d_Form_init : FuncData
  f_Guess_init : Addr
  d_Guess_init : FuncData
  f_Guess_at : Addr
  d_Guess_at : FuncData
  f_PartTaken_init : Addr
  d_PartTaken_init : FuncData
  f_PartTaken_take : Addr
  d_PartTaken_take : FuncData
  f_PartTaken_take_rest : Addr
  d_PartTaken_take_rest : FuncData
  f_Partner_init : Addr
  d_Partner_init : FuncData
  f_Partner_judge : Addr
  d_Partner_judge : FuncData
  f_FrameTaken_init : Addr
  d_FrameTaken_init : FuncData
  c_BitReader : Addr
  c_Form : Addr
  c_Guess : Addr
  c_PartTaken : Addr
  c_Partner : Addr
  c_FrameTaken : Addr
  c_Short : Addr
  c_Wrong : Addr
  t_FACTOR_WIDTH : Tok
  t_GREATEST_SPLIT : Tok
  t_PLAIN : Tok
  t_GREATEST_PLAIN_WIDTH : Tok
  t_GREATEST_FOLDED : Tok
  t_SAME : Tok
  t_PLAIN_KIND : Tok
  t_FIRST_FIXED : Tok
  t_FIRST_LINEAR : Tok
  t_LAST_KIND : Tok
  t_MARK_frames : Tok
  t_LONGEST : Tok
  a_RANGES : Addr
  a_RANGES_0 : Addr
  a_RANGES_1 : Addr
  a_RANGES_2 : Addr
  a_RANGES_3 : Addr
  a_RANGES_4 : Addr
  a_RANGES_5 : Addr
  a_FIXED : Addr
  a_FIXED_0 : Addr
  a_FIXED_1 : Addr
  a_FIXED_2 : Addr
  a_FIXED_3 : Addr
  a_FIXED_4 : Addr
structure Txt (K : PySem.W.Frag) (mg : Str → Option Value) (A : Adr) : Prop where
  F_crc16 : Fun K "crc16" "crc16" s_crc16 A.f_crc16 A.d_crc16
  b_crc16 : Binds K A.d_crc16 ["data"] []
  m_crc16 : mg "crc16" = some (.ref A.f_crc16)
  F_is_form : Fun K "is_form" "is_form" s_is_form A.f_is_form A.d_is_form
  b_is_form : Binds K A.d_is_form ["form"] []
  m_is_form : mg "is_form" = some (.ref A.f_is_form)
  F_fits : Fun K "fits" "fits" s_fits A.f_fits A.d_fits
  b_fits : Binds K A.d_fits ["width", "number"] []
  m_fits : mg "fits" = some (.ref A.f_fits)
  F_fixed_guess : Fun K "fixed_guess" "fixed_guess" s_fixed_guess A.f_fixed_guess A.d_fixed_guess
  b_fixed_guess : Binds K A.d_fixed_guess ["order"] []
  m_fixed_guess : mg "fixed_guess" = some (.ref A.f_fixed_guess)
  F_unfolded_rest : Fun K "unfolded_rest" "unfolded_rest" s_unfolded_rest A.f_unfolded_rest A.d_unfolded_rest
  b_unfolded_rest : Binds K A.d_unfolded_rest ["folded"] []
  m_unfolded_rest : mg "unfolded_rest" = some (.ref A.f_unfolded_rest)
  F_can_split : Fun K "can_split" "can_split" s_can_split A.f_can_split A.d_can_split
  b_can_split : Binds K A.d_can_split ["n", "order", "r"] []
  m_can_split : mg "can_split" = some (.ref A.f_can_split)
  F_read_rests : Fun K "read_rests" "read_rests" s_read_rests A.f_read_rests A.d_read_rests
  b_read_rests : Binds K A.d_read_rests ["reader", "n", "order", "part"] []
  m_read_rests : mg "read_rests" = some (.ref A.f_read_rests)
  F_read_group : Fun K "read_group" "read_group" s_read_group A.f_read_group A.d_read_group
  b_read_group : Binds K A.d_read_group ["reader", "count", "part"] []
  m_read_group : mg "read_group" = some (.ref A.f_read_group)
  F_read_plain : Fun K "read_plain" "read_plain" s_read_plain A.f_read_plain A.d_read_plain
  b_read_plain : Binds K A.d_read_plain ["reader", "count", "part"] []
  m_read_plain : mg "read_plain" = some (.ref A.f_read_plain)
  F_order_of_kind : Fun K "order_of_kind" "order_of_kind" s_order_of_kind A.f_order_of_kind A.d_order_of_kind
  b_order_of_kind : Binds K A.d_order_of_kind ["kind"] []
  m_order_of_kind : mg "order_of_kind" = some (.ref A.f_order_of_kind)
  F_read_part : Fun K "read_part" "read_part" s_read_part A.f_read_part A.d_read_part
  b_read_part : Binds K A.d_read_part ["reader", "n", "width", "partner"] []
  m_read_part : mg "read_part" = some (.ref A.f_read_part)
  F_read_zeros : Fun K "read_zeros" "read_zeros" s_read_zeros A.f_read_zeros A.d_read_zeros
  b_read_zeros : Binds K A.d_read_zeros ["reader", "width"] []
  m_read_zeros : mg "read_zeros" = some (.ref A.f_read_zeros)
  F_read_plainly : Fun K "read_plainly" "read_plainly" s_read_plainly A.f_read_plainly A.d_read_plainly
  b_read_plainly : Binds K A.d_read_plainly ["reader", "count", "part"] []
  m_read_plainly : mg "read_plainly" = some (.ref A.f_read_plainly)
  F_read_guessed : Fun K "read_guessed" "read_guessed" s_read_guessed A.f_read_guessed A.d_read_guessed
  b_read_guessed : Binds K A.d_read_guessed ["reader", "n", "kind", "part"] []
  m_read_guessed : mg "read_guessed" = some (.ref A.f_read_guessed)
  F_joined_pair : Fun K "joined_pair" "joined_pair" s_joined_pair A.f_joined_pair A.d_joined_pair
  b_joined_pair : Binds K A.d_joined_pair ["mode", "x", "y"] []
  m_joined_pair : mg "joined_pair" = some (.ref A.f_joined_pair)
  F_first_width : Fun K "first_width" "first_width" s_first_width A.f_first_width A.d_first_width
  b_first_width : Binds K A.d_first_width ["mode", "depth"] []
  m_first_width : mg "first_width" = some (.ref A.f_first_width)
  F_second_width : Fun K "second_width" "second_width" s_second_width A.f_second_width A.d_second_width
  b_second_width : Binds K A.d_second_width ["mode", "depth"] []
  m_second_width : mg "second_width" = some (.ref A.f_second_width)
  F_read_frame : Fun K "read_frame" "read_frame" s_read_frame A.f_read_frame A.d_read_frame
  b_read_frame : Binds K A.d_read_frame ["form", "data"] []
  m_read_frame : mg "read_frame" = some (.ref A.f_read_frame)
  F_read_items : Fun K "read_items" "read_items" s_read_items A.f_read_items A.d_read_items
  b_read_items : Binds K A.d_read_items ["form", "reader"] []
  m_read_items : mg "read_items" = some (.ref A.f_read_items)
  F_read_channels : Fun K "read_channels" "read_channels" s_read_channels A.f_read_channels A.d_read_channels
  b_read_channels : Binds K A.d_read_channels ["form", "n", "reader"] []
  m_read_channels : mg "read_channels" = some (.ref A.f_read_channels)
  F_read_pair : Fun K "read_pair" "read_pair" s_read_pair A.f_read_pair A.d_read_pair
  b_read_pair : Binds K A.d_read_pair ["depth", "n", "mode", "reader"] []
  m_read_pair : mg "read_pair" = some (.ref A.f_read_pair)
  F_read_end : Fun K "read_end" "read_end" s_read_end A.f_read_end A.d_read_end
  b_read_end : Binds K A.d_read_end ["reader"] []
  m_read_end : mg "read_end" = some (.ref A.f_read_end)
  F_unframe : Fun K "unframe" "unframe" s_unframe A.f_unframe A.d_unframe
  b_unframe : Binds K A.d_unframe ["form", "data"] []
  m_unframe : mg "unframe" = some (.ref A.f_unframe)
  F_BitReader_init : Fun K "__init__" "BitReader.__init__" s_BitReader_init A.f_BitReader_init A.d_BitReader_init
  b_BitReader_init : Binds K A.d_BitReader_init ["self", "data"] []
  F_BitReader_unsigned : Fun K "unsigned" "BitReader.unsigned" s_BitReader_unsigned A.f_BitReader_unsigned A.d_BitReader_unsigned
  b_BitReader_unsigned : Binds K A.d_BitReader_unsigned ["self", "width"] []
  e_BitReader_unsigned : Meth K A.c_BitReader "unsigned" A.f_BitReader_unsigned
  F_BitReader_signed : Fun K "signed" "BitReader.signed" s_BitReader_signed A.f_BitReader_signed A.d_BitReader_signed
  b_BitReader_signed : Binds K A.d_BitReader_signed ["self", "width"] []
  e_BitReader_signed : Meth K A.c_BitReader "signed" A.f_BitReader_signed
  F_BitReader_run : Fun K "run" "BitReader.run" s_BitReader_run A.f_BitReader_run A.d_BitReader_run
  b_BitReader_run : Binds K A.d_BitReader_run ["self", "most"] []
  e_BitReader_run : Meth K A.c_BitReader "run" A.f_BitReader_run
  F_Form_init : Fun K "__init__" "Form.__init__" s_Form_init A.f_Form_init A.d_Form_init
  b_Form_init : Binds K A.d_Form_init ["self", "form"] []
  F_Guess_init : Fun K "__init__" "Guess.__init__" s_Guess_init A.f_Guess_init A.d_Guess_init
  b_Guess_init : Binds K A.d_Guess_init ["self", "factors", "shift"] []
  F_Guess_at : Fun K "at" "Guess.at" s_Guess_at A.f_Guess_at A.d_Guess_at
  b_Guess_at : Binds K A.d_Guess_at ["self", "numbers", "place"] []
  e_Guess_at : Meth K A.c_Guess "at" A.f_Guess_at
  F_PartTaken_init : Fun K "__init__" "PartTaken.__init__" s_PartTaken_init A.f_PartTaken_init A.d_PartTaken_init
  b_PartTaken_init : Binds K A.d_PartTaken_init ["self", "width", "z", "partner"] []
  F_PartTaken_take : Fun K "take" "PartTaken.take" s_PartTaken_take A.f_PartTaken_take A.d_PartTaken_take
  b_PartTaken_take : Binds K A.d_PartTaken_take ["self", "number"] []
  e_PartTaken_take : Meth K A.c_PartTaken "take" A.f_PartTaken_take
  F_PartTaken_take_rest : Fun K "take_rest" "PartTaken.take_rest" s_PartTaken_take_rest A.f_PartTaken_take_rest A.d_PartTaken_take_rest
  b_PartTaken_take_rest : Binds K A.d_PartTaken_take_rest ["self", "rest"] []
  e_PartTaken_take_rest : Meth K A.c_PartTaken "take_rest" A.f_PartTaken_take_rest
  F_Partner_init : Fun K "__init__" "Partner.__init__" s_Partner_init A.f_Partner_init A.d_Partner_init
  b_Partner_init : Binds K A.d_Partner_init ["self", "mode", "depth", "numbers"] []
  F_Partner_judge : Fun K "judge" "Partner.judge" s_Partner_judge A.f_Partner_judge A.d_Partner_judge
  b_Partner_judge : Binds K A.d_Partner_judge ["self", "place", "number"] []
  e_Partner_judge : Meth K A.c_Partner "judge" A.f_Partner_judge
  F_FrameTaken_init : Fun K "__init__" "FrameTaken.__init__" s_FrameTaken_init A.f_FrameTaken_init A.d_FrameTaken_init
  b_FrameTaken_init : Binds K A.d_FrameTaken_init ["self", "size", "k", "n", "numbers"] []
  l_BitReader : Cls K A.c_BitReader
  m_BitReader : mg "BitReader" = some (.ref A.c_BitReader)
  k_BitReader : Mk K A.c_BitReader A.f_BitReader_init
  n_BitReader_data : NoAttr K A.c_BitReader "data"
  n_BitReader_place : NoAttr K A.c_BitReader "place"
  l_Form : Cls K A.c_Form
  m_Form : mg "Form" = some (.ref A.c_Form)
  k_Form : Mk K A.c_Form A.f_Form_init
  n_Form_channels : NoAttr K A.c_Form "channels"
  n_Form_depth : NoAttr K A.c_Form "depth"
  n_Form_block : NoAttr K A.c_Form "block"
  n_Form_order : NoAttr K A.c_Form "order"
  n_Form_group : NoAttr K A.c_Form "group"
  n_Form_spare : NoAttr K A.c_Form "spare"
  l_Guess : Cls K A.c_Guess
  m_Guess : mg "Guess" = some (.ref A.c_Guess)
  k_Guess : Mk K A.c_Guess A.f_Guess_init
  n_Guess_factors : NoAttr K A.c_Guess "factors"
  n_Guess_shift : NoAttr K A.c_Guess "shift"
  l_PartTaken : Cls K A.c_PartTaken
  m_PartTaken : mg "PartTaken" = some (.ref A.c_PartTaken)
  k_PartTaken : Mk K A.c_PartTaken A.f_PartTaken_init
  n_PartTaken_width : NoAttr K A.c_PartTaken "width"
  n_PartTaken_z : NoAttr K A.c_PartTaken "z"
  n_PartTaken_partner : NoAttr K A.c_PartTaken "partner"
  n_PartTaken_guess : NoAttr K A.c_PartTaken "guess"
  n_PartTaken_taken : NoAttr K A.c_PartTaken "taken"
  l_Partner : Cls K A.c_Partner
  m_Partner : mg "Partner" = some (.ref A.c_Partner)
  k_Partner : Mk K A.c_Partner A.f_Partner_init
  n_Partner_mode : NoAttr K A.c_Partner "mode"
  n_Partner_depth : NoAttr K A.c_Partner "depth"
  n_Partner_numbers : NoAttr K A.c_Partner "numbers"
  l_FrameTaken : Cls K A.c_FrameTaken
  m_FrameTaken : mg "FrameTaken" = some (.ref A.c_FrameTaken)
  k_FrameTaken : Mk K A.c_FrameTaken A.f_FrameTaken_init
  n_FrameTaken_size : NoAttr K A.c_FrameTaken "size"
  n_FrameTaken_k : NoAttr K A.c_FrameTaken "k"
  n_FrameTaken_n : NoAttr K A.c_FrameTaken "n"
  n_FrameTaken_numbers : NoAttr K A.c_FrameTaken "numbers"
  m_Short : mg "Short" = some (.ref A.c_Short)
  x_Short : Own K A.c_Short
  m_Wrong : mg "Wrong" = some (.ref A.c_Wrong)
  x_Wrong : Own K A.c_Wrong
  d_Short_Wrong : A.c_Short ≠ A.c_Wrong
  g_FACTOR_WIDTH : mg "FACTOR_WIDTH" = some (.int 12 A.t_FACTOR_WIDTH)
  g_GREATEST_SPLIT : mg "GREATEST_SPLIT" = some (.int 6 A.t_GREATEST_SPLIT)
  g_PLAIN : mg "PLAIN" = some (.int 31 A.t_PLAIN)
  g_GREATEST_PLAIN_WIDTH : mg "GREATEST_PLAIN_WIDTH" = some (.int 40 A.t_GREATEST_PLAIN_WIDTH)
  g_GREATEST_FOLDED : mg "GREATEST_FOLDED" = some (.int 1099511627775 A.t_GREATEST_FOLDED)
  g_SAME : mg "SAME" = some (.int 0 A.t_SAME)
  g_PLAIN_KIND : mg "PLAIN_KIND" = some (.int 1 A.t_PLAIN_KIND)
  g_FIRST_FIXED : mg "FIRST_FIXED" = some (.int 2 A.t_FIRST_FIXED)
  g_FIRST_LINEAR : mg "FIRST_LINEAR" = some (.int 7 A.t_FIRST_LINEAR)
  g_LAST_KIND : mg "LAST_KIND" = some (.int 10 A.t_LAST_KIND)
  g_MARK_frames : mg "MARK" = some (.int 19287 A.t_MARK_frames)
  g_LONGEST : mg "LONGEST" = some (.int 4096 A.t_LONGEST)
  g_RANGES : mg "RANGES" = some (.ref A.a_RANGES)
  q_RANGES : ∀ H, SqT K H A.a_RANGES [V.ref A.a_RANGES_0, V.ref A.a_RANGES_1, V.ref A.a_RANGES_2, V.ref A.a_RANGES_3, V.ref A.a_RANGES_4, V.ref A.a_RANGES_5]
  q_RANGES_0 : ∀ H, SqT K H A.a_RANGES_0 [V.int (1), V.int (4)]
  q_RANGES_1 : ∀ H, SqT K H A.a_RANGES_1 [V.int (4), V.int (24)]
  q_RANGES_2 : ∀ H, SqT K H A.a_RANGES_2 [V.int (16), V.int (256)]
  q_RANGES_3 : ∀ H, SqT K H A.a_RANGES_3 [V.int (0), V.int (4)]
  q_RANGES_4 : ∀ H, SqT K H A.a_RANGES_4 [V.int (1), V.int (8)]
  q_RANGES_5 : ∀ H, SqT K H A.a_RANGES_5 [V.int (0), V.int (4)]
  g_FIXED : mg "FIXED" = some (.ref A.a_FIXED)
  q_FIXED : ∀ H, SqT K H A.a_FIXED [V.ref A.a_FIXED_0, V.ref A.a_FIXED_1, V.ref A.a_FIXED_2, V.ref A.a_FIXED_3, V.ref A.a_FIXED_4]
  q_FIXED_0 : ∀ H, SqT K H A.a_FIXED_0 []
  q_FIXED_1 : ∀ H, SqT K H A.a_FIXED_1 [V.int (1)]
  q_FIXED_2 : ∀ H, SqT K H A.a_FIXED_2 [V.int (2), V.int (-1)]
  q_FIXED_3 : ∀ H, SqT K H A.a_FIXED_3 [V.int (3), V.int (-3), V.int (1)]
  q_FIXED_4 : ∀ H, SqT K H A.a_FIXED_4 [V.int (4), V.int (-6), V.int (4), V.int (-1)]
  z_all : mg "all" = none
  z_len : mg "len" = none
  z_list : mg "list" = none
  z_range : mg "range" = none
  z_zip : mg "zip" = none
  entry : ∀ (s : Shared) (us : List Value), us.length = (["form", "data"] : List Str).length → BindsTo s A.d_unframe ⟨us, []⟩ ((["form", "data"] : List Str).zip us)
set_option maxHeartbeats 0 in
theorem txt_mk {K : PySem.W.Frag} {h : Heap} {mg : Str → Option Value} (X : K.In h) (G : h.Ns mainGlobals mg)
    {c_Wrong : Addr}
    {c_Short : Addr}
    {c_FrameTaken : Addr}
    {c_Partner : Addr}
    {c_PartTaken : Addr}
    {c_Guess : Addr}
    {c_Form : Addr}
    {c_BitReader : Addr}
    {f_crc16 : Addr} {od_crc16 an_crc16 : Option Addr} {sl_crc16 : Array (Option Value)} {oc_crc16 kV_crc16 dc_crc16 pm_crc16 cd_crc16 ct_crc16 : Value}
    {f_is_form : Addr} {od_is_form an_is_form : Option Addr} {sl_is_form : Array (Option Value)} {oc_is_form kV_is_form dc_is_form pm_is_form cd_is_form ct_is_form : Value}
    {f_fits : Addr} {od_fits an_fits : Option Addr} {sl_fits : Array (Option Value)} {oc_fits kV_fits dc_fits pm_fits cd_fits ct_fits : Value}
    {f_fixed_guess : Addr} {od_fixed_guess an_fixed_guess : Option Addr} {sl_fixed_guess : Array (Option Value)} {oc_fixed_guess kV_fixed_guess dc_fixed_guess pm_fixed_guess cd_fixed_guess ct_fixed_guess : Value}
    {f_unfolded_rest : Addr} {od_unfolded_rest an_unfolded_rest : Option Addr} {sl_unfolded_rest : Array (Option Value)} {oc_unfolded_rest kV_unfolded_rest dc_unfolded_rest pm_unfolded_rest cd_unfolded_rest ct_unfolded_rest : Value}
    {f_can_split : Addr} {od_can_split an_can_split : Option Addr} {sl_can_split : Array (Option Value)} {oc_can_split kV_can_split dc_can_split pm_can_split cd_can_split ct_can_split : Value}
    {f_read_rests : Addr} {od_read_rests an_read_rests : Option Addr} {sl_read_rests : Array (Option Value)} {oc_read_rests kV_read_rests dc_read_rests pm_read_rests cd_read_rests ct_read_rests : Value}
    {f_read_group : Addr} {od_read_group an_read_group : Option Addr} {sl_read_group : Array (Option Value)} {oc_read_group kV_read_group dc_read_group pm_read_group cd_read_group ct_read_group : Value}
    {f_read_plain : Addr} {od_read_plain an_read_plain : Option Addr} {sl_read_plain : Array (Option Value)} {oc_read_plain kV_read_plain dc_read_plain pm_read_plain cd_read_plain ct_read_plain : Value}
    {f_order_of_kind : Addr} {od_order_of_kind an_order_of_kind : Option Addr} {sl_order_of_kind : Array (Option Value)} {oc_order_of_kind kV_order_of_kind dc_order_of_kind pm_order_of_kind cd_order_of_kind ct_order_of_kind : Value}
    {f_read_part : Addr} {od_read_part an_read_part : Option Addr} {sl_read_part : Array (Option Value)} {oc_read_part kV_read_part dc_read_part pm_read_part cd_read_part ct_read_part : Value}
    {f_read_zeros : Addr} {od_read_zeros an_read_zeros : Option Addr} {sl_read_zeros : Array (Option Value)} {oc_read_zeros kV_read_zeros dc_read_zeros pm_read_zeros cd_read_zeros ct_read_zeros : Value}
    {f_read_plainly : Addr} {od_read_plainly an_read_plainly : Option Addr} {sl_read_plainly : Array (Option Value)} {oc_read_plainly kV_read_plainly dc_read_plainly pm_read_plainly cd_read_plainly ct_read_plainly : Value}
    {f_read_guessed : Addr} {od_read_guessed an_read_guessed : Option Addr} {sl_read_guessed : Array (Option Value)} {oc_read_guessed kV_read_guessed dc_read_guessed pm_read_guessed cd_read_guessed ct_read_guessed : Value}
    {f_joined_pair : Addr} {od_joined_pair an_joined_pair : Option Addr} {sl_joined_pair : Array (Option Value)} {oc_joined_pair kV_joined_pair dc_joined_pair pm_joined_pair cd_joined_pair ct_joined_pair : Value}
    {f_first_width : Addr} {od_first_width an_first_width : Option Addr} {sl_first_width : Array (Option Value)} {oc_first_width kV_first_width dc_first_width pm_first_width cd_first_width ct_first_width : Value}
    {f_second_width : Addr} {od_second_width an_second_width : Option Addr} {sl_second_width : Array (Option Value)} {oc_second_width kV_second_width dc_second_width pm_second_width cd_second_width ct_second_width : Value}
    {f_read_frame : Addr} {od_read_frame an_read_frame : Option Addr} {sl_read_frame : Array (Option Value)} {oc_read_frame kV_read_frame dc_read_frame pm_read_frame cd_read_frame ct_read_frame : Value}
    {f_read_items : Addr} {od_read_items an_read_items : Option Addr} {sl_read_items : Array (Option Value)} {oc_read_items kV_read_items dc_read_items pm_read_items cd_read_items ct_read_items : Value}
    {f_read_channels : Addr} {od_read_channels an_read_channels : Option Addr} {sl_read_channels : Array (Option Value)} {oc_read_channels kV_read_channels dc_read_channels pm_read_channels cd_read_channels ct_read_channels : Value}
    {f_read_pair : Addr} {od_read_pair an_read_pair : Option Addr} {sl_read_pair : Array (Option Value)} {oc_read_pair kV_read_pair dc_read_pair pm_read_pair cd_read_pair ct_read_pair : Value}
    {f_read_end : Addr} {od_read_end an_read_end : Option Addr} {sl_read_end : Array (Option Value)} {oc_read_end kV_read_end dc_read_end pm_read_end cd_read_end ct_read_end : Value}
    {f_unframe : Addr} {od_unframe an_unframe : Option Addr} {sl_unframe : Array (Option Value)} {oc_unframe kV_unframe dc_unframe pm_unframe cd_unframe ct_unframe : Value}
    {f_BitReader_init : Addr} {od_BitReader_init an_BitReader_init : Option Addr} {sl_BitReader_init : Array (Option Value)} {oc_BitReader_init kV_BitReader_init dc_BitReader_init pm_BitReader_init cd_BitReader_init ct_BitReader_init : Value}
    {f_BitReader_unsigned : Addr} {od_BitReader_unsigned an_BitReader_unsigned : Option Addr} {sl_BitReader_unsigned : Array (Option Value)} {oc_BitReader_unsigned kV_BitReader_unsigned dc_BitReader_unsigned pm_BitReader_unsigned cd_BitReader_unsigned ct_BitReader_unsigned : Value}
    {f_BitReader_signed : Addr} {od_BitReader_signed an_BitReader_signed : Option Addr} {sl_BitReader_signed : Array (Option Value)} {oc_BitReader_signed kV_BitReader_signed dc_BitReader_signed pm_BitReader_signed cd_BitReader_signed ct_BitReader_signed : Value}
    {f_BitReader_run : Addr} {od_BitReader_run an_BitReader_run : Option Addr} {sl_BitReader_run : Array (Option Value)} {oc_BitReader_run kV_BitReader_run dc_BitReader_run pm_BitReader_run cd_BitReader_run ct_BitReader_run : Value}
    {f_Form_init : Addr} {od_Form_init an_Form_init : Option Addr} {sl_Form_init : Array (Option Value)} {oc_Form_init kV_Form_init dc_Form_init pm_Form_init cd_Form_init ct_Form_init : Value}
    {f_Guess_init : Addr} {od_Guess_init an_Guess_init : Option Addr} {sl_Guess_init : Array (Option Value)} {oc_Guess_init kV_Guess_init dc_Guess_init pm_Guess_init cd_Guess_init ct_Guess_init : Value}
    {f_Guess_at : Addr} {od_Guess_at an_Guess_at : Option Addr} {sl_Guess_at : Array (Option Value)} {oc_Guess_at kV_Guess_at dc_Guess_at pm_Guess_at cd_Guess_at ct_Guess_at : Value}
    {f_PartTaken_init : Addr} {od_PartTaken_init an_PartTaken_init : Option Addr} {sl_PartTaken_init : Array (Option Value)} {oc_PartTaken_init kV_PartTaken_init dc_PartTaken_init pm_PartTaken_init cd_PartTaken_init ct_PartTaken_init : Value}
    {f_PartTaken_take : Addr} {od_PartTaken_take an_PartTaken_take : Option Addr} {sl_PartTaken_take : Array (Option Value)} {oc_PartTaken_take kV_PartTaken_take dc_PartTaken_take pm_PartTaken_take cd_PartTaken_take ct_PartTaken_take : Value}
    {f_PartTaken_take_rest : Addr} {od_PartTaken_take_rest an_PartTaken_take_rest : Option Addr} {sl_PartTaken_take_rest : Array (Option Value)} {oc_PartTaken_take_rest kV_PartTaken_take_rest dc_PartTaken_take_rest pm_PartTaken_take_rest cd_PartTaken_take_rest ct_PartTaken_take_rest : Value}
    {f_Partner_init : Addr} {od_Partner_init an_Partner_init : Option Addr} {sl_Partner_init : Array (Option Value)} {oc_Partner_init kV_Partner_init dc_Partner_init pm_Partner_init cd_Partner_init ct_Partner_init : Value}
    {f_Partner_judge : Addr} {od_Partner_judge an_Partner_judge : Option Addr} {sl_Partner_judge : Array (Option Value)} {oc_Partner_judge kV_Partner_judge dc_Partner_judge pm_Partner_judge cd_Partner_judge ct_Partner_judge : Value}
    {f_FrameTaken_init : Addr} {od_FrameTaken_init an_FrameTaken_init : Option Addr} {sl_FrameTaken_init : Array (Option Value)} {oc_FrameTaken_init kV_FrameTaken_init dc_FrameTaken_init pm_FrameTaken_init cd_FrameTaken_init ct_FrameTaken_init : Value}
    {t_FACTOR_WIDTH : Tok}
    {t_GREATEST_SPLIT : Tok}
    {t_PLAIN : Tok}
    {t_GREATEST_PLAIN_WIDTH : Tok}
    {t_GREATEST_FOLDED : Tok}
    {t_SAME : Tok}
    {t_PLAIN_KIND : Tok}
    {t_FIRST_FIXED : Tok}
    {t_FIRST_LINEAR : Tok}
    {t_LAST_KIND : Tok}
    {t_MARK_frames : Tok}
    {t_LONGEST : Tok}
    {a_RANGES a_RANGES_0 a_RANGES_1 a_RANGES_2 a_RANGES_3 a_RANGES_4 a_RANGES_5 : Addr} {dT_RANGES : Option Addr} {nT_RANGES : Nat} {sT_RANGES : Array (Option Value)}
    {dT_RANGES_0 : Option Addr} {nT_RANGES_0 : Nat} {sT_RANGES_0 : Array (Option Value)}
    {tk_RANGES_0_0 tk_RANGES_0_1 : Tok}
    {dT_RANGES_1 : Option Addr} {nT_RANGES_1 : Nat} {sT_RANGES_1 : Array (Option Value)}
    {tk_RANGES_1_0 tk_RANGES_1_1 : Tok}
    {dT_RANGES_2 : Option Addr} {nT_RANGES_2 : Nat} {sT_RANGES_2 : Array (Option Value)}
    {tk_RANGES_2_0 tk_RANGES_2_1 : Tok}
    {dT_RANGES_3 : Option Addr} {nT_RANGES_3 : Nat} {sT_RANGES_3 : Array (Option Value)}
    {tk_RANGES_3_0 tk_RANGES_3_1 : Tok}
    {dT_RANGES_4 : Option Addr} {nT_RANGES_4 : Nat} {sT_RANGES_4 : Array (Option Value)}
    {tk_RANGES_4_0 tk_RANGES_4_1 : Tok}
    {dT_RANGES_5 : Option Addr} {nT_RANGES_5 : Nat} {sT_RANGES_5 : Array (Option Value)}
    {tk_RANGES_5_0 tk_RANGES_5_1 : Tok}
    {a_FIXED a_FIXED_0 a_FIXED_1 a_FIXED_2 a_FIXED_3 a_FIXED_4 : Addr} {dT_FIXED : Option Addr} {nT_FIXED : Nat} {sT_FIXED : Array (Option Value)}
    {dT_FIXED_0 : Option Addr} {nT_FIXED_0 : Nat} {sT_FIXED_0 : Array (Option Value)}
    {dT_FIXED_1 : Option Addr} {nT_FIXED_1 : Nat} {sT_FIXED_1 : Array (Option Value)}
    {tk_FIXED_1_0 : Tok}
    {dT_FIXED_2 : Option Addr} {nT_FIXED_2 : Nat} {sT_FIXED_2 : Array (Option Value)}
    {tk_FIXED_2_0 tk_FIXED_2_1 : Tok}
    {dT_FIXED_3 : Option Addr} {nT_FIXED_3 : Nat} {sT_FIXED_3 : Array (Option Value)}
    {tk_FIXED_3_0 tk_FIXED_3_1 tk_FIXED_3_2 : Tok}
    {dT_FIXED_4 : Option Addr} {nT_FIXED_4 : Nat} {sT_FIXED_4 : Array (Option Value)}
    {tk_FIXED_4_0 tk_FIXED_4_1 tk_FIXED_4_2 tk_FIXED_4_3 : Tok}
    (a_BitReader : PySem.W.nsIn K mainGlobals "BitReader" = some (some (.ref c_BitReader)))
    (a_Form : PySem.W.nsIn K mainGlobals "Form" = some (some (.ref c_Form)))
    (a_Guess : PySem.W.nsIn K mainGlobals "Guess" = some (some (.ref c_Guess)))
    (a_PartTaken : PySem.W.nsIn K mainGlobals "PartTaken" = some (some (.ref c_PartTaken)))
    (a_Partner : PySem.W.nsIn K mainGlobals "Partner" = some (some (.ref c_Partner)))
    (a_FrameTaken : PySem.W.nsIn K mainGlobals "FrameTaken" = some (some (.ref c_FrameTaken)))
    (a_Short : PySem.W.nsIn K mainGlobals "Short" = some (some (.ref c_Short)))
    (a_Wrong : PySem.W.nsIn K mainGlobals "Wrong" = some (some (.ref c_Wrong)))
    (a_crc16 : PySem.W.nsIn K mainGlobals "crc16" = some (some (.ref f_crc16)))
    (l_crc16 : K.lookup f_crc16 = some ⟨oc_crc16, od_crc16, .func (PySem.W.fnOf "crc16" "crc16" (defArgs s_crc16) (defBody s_crc16) (defScope s_crc16) .none kV_crc16 dc_crc16 pm_crc16 an_crc16 cd_crc16 ct_crc16), sl_crc16⟩)
    (c_crc16 : PySem.W.codeIn K cd_crc16 "crc16" = true)
    (k_crc16 : PySem.W.keepIn K (.ref f_crc16) = true)
    (a_is_form : PySem.W.nsIn K mainGlobals "is_form" = some (some (.ref f_is_form)))
    (l_is_form : K.lookup f_is_form = some ⟨oc_is_form, od_is_form, .func (PySem.W.fnOf "is_form" "is_form" (defArgs s_is_form) (defBody s_is_form) (defScope s_is_form) .none kV_is_form dc_is_form pm_is_form an_is_form cd_is_form ct_is_form), sl_is_form⟩)
    (c_is_form : PySem.W.codeIn K cd_is_form "is_form" = true)
    (k_is_form : PySem.W.keepIn K (.ref f_is_form) = true)
    (a_fits : PySem.W.nsIn K mainGlobals "fits" = some (some (.ref f_fits)))
    (l_fits : K.lookup f_fits = some ⟨oc_fits, od_fits, .func (PySem.W.fnOf "fits" "fits" (defArgs s_fits) (defBody s_fits) (defScope s_fits) .none kV_fits dc_fits pm_fits an_fits cd_fits ct_fits), sl_fits⟩)
    (c_fits : PySem.W.codeIn K cd_fits "fits" = true)
    (k_fits : PySem.W.keepIn K (.ref f_fits) = true)
    (a_fixed_guess : PySem.W.nsIn K mainGlobals "fixed_guess" = some (some (.ref f_fixed_guess)))
    (l_fixed_guess : K.lookup f_fixed_guess = some ⟨oc_fixed_guess, od_fixed_guess, .func (PySem.W.fnOf "fixed_guess" "fixed_guess" (defArgs s_fixed_guess) (defBody s_fixed_guess) (defScope s_fixed_guess) .none kV_fixed_guess dc_fixed_guess pm_fixed_guess an_fixed_guess cd_fixed_guess ct_fixed_guess), sl_fixed_guess⟩)
    (c_fixed_guess : PySem.W.codeIn K cd_fixed_guess "fixed_guess" = true)
    (k_fixed_guess : PySem.W.keepIn K (.ref f_fixed_guess) = true)
    (a_unfolded_rest : PySem.W.nsIn K mainGlobals "unfolded_rest" = some (some (.ref f_unfolded_rest)))
    (l_unfolded_rest : K.lookup f_unfolded_rest = some ⟨oc_unfolded_rest, od_unfolded_rest, .func (PySem.W.fnOf "unfolded_rest" "unfolded_rest" (defArgs s_unfolded_rest) (defBody s_unfolded_rest) (defScope s_unfolded_rest) .none kV_unfolded_rest dc_unfolded_rest pm_unfolded_rest an_unfolded_rest cd_unfolded_rest ct_unfolded_rest), sl_unfolded_rest⟩)
    (c_unfolded_rest : PySem.W.codeIn K cd_unfolded_rest "unfolded_rest" = true)
    (k_unfolded_rest : PySem.W.keepIn K (.ref f_unfolded_rest) = true)
    (a_can_split : PySem.W.nsIn K mainGlobals "can_split" = some (some (.ref f_can_split)))
    (l_can_split : K.lookup f_can_split = some ⟨oc_can_split, od_can_split, .func (PySem.W.fnOf "can_split" "can_split" (defArgs s_can_split) (defBody s_can_split) (defScope s_can_split) .none kV_can_split dc_can_split pm_can_split an_can_split cd_can_split ct_can_split), sl_can_split⟩)
    (c_can_split : PySem.W.codeIn K cd_can_split "can_split" = true)
    (k_can_split : PySem.W.keepIn K (.ref f_can_split) = true)
    (a_read_rests : PySem.W.nsIn K mainGlobals "read_rests" = some (some (.ref f_read_rests)))
    (l_read_rests : K.lookup f_read_rests = some ⟨oc_read_rests, od_read_rests, .func (PySem.W.fnOf "read_rests" "read_rests" (defArgs s_read_rests) (defBody s_read_rests) (defScope s_read_rests) .none kV_read_rests dc_read_rests pm_read_rests an_read_rests cd_read_rests ct_read_rests), sl_read_rests⟩)
    (c_read_rests : PySem.W.codeIn K cd_read_rests "read_rests" = true)
    (k_read_rests : PySem.W.keepIn K (.ref f_read_rests) = true)
    (a_read_group : PySem.W.nsIn K mainGlobals "read_group" = some (some (.ref f_read_group)))
    (l_read_group : K.lookup f_read_group = some ⟨oc_read_group, od_read_group, .func (PySem.W.fnOf "read_group" "read_group" (defArgs s_read_group) (defBody s_read_group) (defScope s_read_group) .none kV_read_group dc_read_group pm_read_group an_read_group cd_read_group ct_read_group), sl_read_group⟩)
    (c_read_group : PySem.W.codeIn K cd_read_group "read_group" = true)
    (k_read_group : PySem.W.keepIn K (.ref f_read_group) = true)
    (a_read_plain : PySem.W.nsIn K mainGlobals "read_plain" = some (some (.ref f_read_plain)))
    (l_read_plain : K.lookup f_read_plain = some ⟨oc_read_plain, od_read_plain, .func (PySem.W.fnOf "read_plain" "read_plain" (defArgs s_read_plain) (defBody s_read_plain) (defScope s_read_plain) .none kV_read_plain dc_read_plain pm_read_plain an_read_plain cd_read_plain ct_read_plain), sl_read_plain⟩)
    (c_read_plain : PySem.W.codeIn K cd_read_plain "read_plain" = true)
    (k_read_plain : PySem.W.keepIn K (.ref f_read_plain) = true)
    (a_order_of_kind : PySem.W.nsIn K mainGlobals "order_of_kind" = some (some (.ref f_order_of_kind)))
    (l_order_of_kind : K.lookup f_order_of_kind = some ⟨oc_order_of_kind, od_order_of_kind, .func (PySem.W.fnOf "order_of_kind" "order_of_kind" (defArgs s_order_of_kind) (defBody s_order_of_kind) (defScope s_order_of_kind) .none kV_order_of_kind dc_order_of_kind pm_order_of_kind an_order_of_kind cd_order_of_kind ct_order_of_kind), sl_order_of_kind⟩)
    (c_order_of_kind : PySem.W.codeIn K cd_order_of_kind "order_of_kind" = true)
    (k_order_of_kind : PySem.W.keepIn K (.ref f_order_of_kind) = true)
    (a_read_part : PySem.W.nsIn K mainGlobals "read_part" = some (some (.ref f_read_part)))
    (l_read_part : K.lookup f_read_part = some ⟨oc_read_part, od_read_part, .func (PySem.W.fnOf "read_part" "read_part" (defArgs s_read_part) (defBody s_read_part) (defScope s_read_part) .none kV_read_part dc_read_part pm_read_part an_read_part cd_read_part ct_read_part), sl_read_part⟩)
    (c_read_part : PySem.W.codeIn K cd_read_part "read_part" = true)
    (k_read_part : PySem.W.keepIn K (.ref f_read_part) = true)
    (a_read_zeros : PySem.W.nsIn K mainGlobals "read_zeros" = some (some (.ref f_read_zeros)))
    (l_read_zeros : K.lookup f_read_zeros = some ⟨oc_read_zeros, od_read_zeros, .func (PySem.W.fnOf "read_zeros" "read_zeros" (defArgs s_read_zeros) (defBody s_read_zeros) (defScope s_read_zeros) .none kV_read_zeros dc_read_zeros pm_read_zeros an_read_zeros cd_read_zeros ct_read_zeros), sl_read_zeros⟩)
    (c_read_zeros : PySem.W.codeIn K cd_read_zeros "read_zeros" = true)
    (k_read_zeros : PySem.W.keepIn K (.ref f_read_zeros) = true)
    (a_read_plainly : PySem.W.nsIn K mainGlobals "read_plainly" = some (some (.ref f_read_plainly)))
    (l_read_plainly : K.lookup f_read_plainly = some ⟨oc_read_plainly, od_read_plainly, .func (PySem.W.fnOf "read_plainly" "read_plainly" (defArgs s_read_plainly) (defBody s_read_plainly) (defScope s_read_plainly) .none kV_read_plainly dc_read_plainly pm_read_plainly an_read_plainly cd_read_plainly ct_read_plainly), sl_read_plainly⟩)
    (c_read_plainly : PySem.W.codeIn K cd_read_plainly "read_plainly" = true)
    (k_read_plainly : PySem.W.keepIn K (.ref f_read_plainly) = true)
    (a_read_guessed : PySem.W.nsIn K mainGlobals "read_guessed" = some (some (.ref f_read_guessed)))
    (l_read_guessed : K.lookup f_read_guessed = some ⟨oc_read_guessed, od_read_guessed, .func (PySem.W.fnOf "read_guessed" "read_guessed" (defArgs s_read_guessed) (defBody s_read_guessed) (defScope s_read_guessed) .none kV_read_guessed dc_read_guessed pm_read_guessed an_read_guessed cd_read_guessed ct_read_guessed), sl_read_guessed⟩)
    (c_read_guessed : PySem.W.codeIn K cd_read_guessed "read_guessed" = true)
    (k_read_guessed : PySem.W.keepIn K (.ref f_read_guessed) = true)
    (a_joined_pair : PySem.W.nsIn K mainGlobals "joined_pair" = some (some (.ref f_joined_pair)))
    (l_joined_pair : K.lookup f_joined_pair = some ⟨oc_joined_pair, od_joined_pair, .func (PySem.W.fnOf "joined_pair" "joined_pair" (defArgs s_joined_pair) (defBody s_joined_pair) (defScope s_joined_pair) .none kV_joined_pair dc_joined_pair pm_joined_pair an_joined_pair cd_joined_pair ct_joined_pair), sl_joined_pair⟩)
    (c_joined_pair : PySem.W.codeIn K cd_joined_pair "joined_pair" = true)
    (k_joined_pair : PySem.W.keepIn K (.ref f_joined_pair) = true)
    (a_first_width : PySem.W.nsIn K mainGlobals "first_width" = some (some (.ref f_first_width)))
    (l_first_width : K.lookup f_first_width = some ⟨oc_first_width, od_first_width, .func (PySem.W.fnOf "first_width" "first_width" (defArgs s_first_width) (defBody s_first_width) (defScope s_first_width) .none kV_first_width dc_first_width pm_first_width an_first_width cd_first_width ct_first_width), sl_first_width⟩)
    (c_first_width : PySem.W.codeIn K cd_first_width "first_width" = true)
    (k_first_width : PySem.W.keepIn K (.ref f_first_width) = true)
    (a_second_width : PySem.W.nsIn K mainGlobals "second_width" = some (some (.ref f_second_width)))
    (l_second_width : K.lookup f_second_width = some ⟨oc_second_width, od_second_width, .func (PySem.W.fnOf "second_width" "second_width" (defArgs s_second_width) (defBody s_second_width) (defScope s_second_width) .none kV_second_width dc_second_width pm_second_width an_second_width cd_second_width ct_second_width), sl_second_width⟩)
    (c_second_width : PySem.W.codeIn K cd_second_width "second_width" = true)
    (k_second_width : PySem.W.keepIn K (.ref f_second_width) = true)
    (a_read_frame : PySem.W.nsIn K mainGlobals "read_frame" = some (some (.ref f_read_frame)))
    (l_read_frame : K.lookup f_read_frame = some ⟨oc_read_frame, od_read_frame, .func (PySem.W.fnOf "read_frame" "read_frame" (defArgs s_read_frame) (defBody s_read_frame) (defScope s_read_frame) .none kV_read_frame dc_read_frame pm_read_frame an_read_frame cd_read_frame ct_read_frame), sl_read_frame⟩)
    (c_read_frame : PySem.W.codeIn K cd_read_frame "read_frame" = true)
    (k_read_frame : PySem.W.keepIn K (.ref f_read_frame) = true)
    (a_read_items : PySem.W.nsIn K mainGlobals "read_items" = some (some (.ref f_read_items)))
    (l_read_items : K.lookup f_read_items = some ⟨oc_read_items, od_read_items, .func (PySem.W.fnOf "read_items" "read_items" (defArgs s_read_items) (defBody s_read_items) (defScope s_read_items) .none kV_read_items dc_read_items pm_read_items an_read_items cd_read_items ct_read_items), sl_read_items⟩)
    (c_read_items : PySem.W.codeIn K cd_read_items "read_items" = true)
    (k_read_items : PySem.W.keepIn K (.ref f_read_items) = true)
    (a_read_channels : PySem.W.nsIn K mainGlobals "read_channels" = some (some (.ref f_read_channels)))
    (l_read_channels : K.lookup f_read_channels = some ⟨oc_read_channels, od_read_channels, .func (PySem.W.fnOf "read_channels" "read_channels" (defArgs s_read_channels) (defBody s_read_channels) (defScope s_read_channels) .none kV_read_channels dc_read_channels pm_read_channels an_read_channels cd_read_channels ct_read_channels), sl_read_channels⟩)
    (c_read_channels : PySem.W.codeIn K cd_read_channels "read_channels" = true)
    (k_read_channels : PySem.W.keepIn K (.ref f_read_channels) = true)
    (a_read_pair : PySem.W.nsIn K mainGlobals "read_pair" = some (some (.ref f_read_pair)))
    (l_read_pair : K.lookup f_read_pair = some ⟨oc_read_pair, od_read_pair, .func (PySem.W.fnOf "read_pair" "read_pair" (defArgs s_read_pair) (defBody s_read_pair) (defScope s_read_pair) .none kV_read_pair dc_read_pair pm_read_pair an_read_pair cd_read_pair ct_read_pair), sl_read_pair⟩)
    (c_read_pair : PySem.W.codeIn K cd_read_pair "read_pair" = true)
    (k_read_pair : PySem.W.keepIn K (.ref f_read_pair) = true)
    (a_read_end : PySem.W.nsIn K mainGlobals "read_end" = some (some (.ref f_read_end)))
    (l_read_end : K.lookup f_read_end = some ⟨oc_read_end, od_read_end, .func (PySem.W.fnOf "read_end" "read_end" (defArgs s_read_end) (defBody s_read_end) (defScope s_read_end) .none kV_read_end dc_read_end pm_read_end an_read_end cd_read_end ct_read_end), sl_read_end⟩)
    (c_read_end : PySem.W.codeIn K cd_read_end "read_end" = true)
    (k_read_end : PySem.W.keepIn K (.ref f_read_end) = true)
    (a_unframe : PySem.W.nsIn K mainGlobals "unframe" = some (some (.ref f_unframe)))
    (l_unframe : K.lookup f_unframe = some ⟨oc_unframe, od_unframe, .func (PySem.W.fnOf "unframe" "unframe" (defArgs s_unframe) (defBody s_unframe) (defScope s_unframe) .none kV_unframe dc_unframe pm_unframe an_unframe cd_unframe ct_unframe), sl_unframe⟩)
    (c_unframe : PySem.W.codeIn K cd_unframe "unframe" = true)
    (k_unframe : PySem.W.keepIn K (.ref f_unframe) = true)
    (a_BitReader_init : PySem.W.findIn K (.ref c_BitReader) "__init__" = some (some (.ref f_BitReader_init)))
    (i_BitReader_init : PySem.W.isFn K (.ref f_BitReader_init) = true)
    (l_BitReader_init : K.lookup f_BitReader_init = some ⟨oc_BitReader_init, od_BitReader_init, .func (PySem.W.fnOf "__init__" "BitReader.__init__" (defArgs s_BitReader_init) (defBody s_BitReader_init) (defScope s_BitReader_init) .none kV_BitReader_init dc_BitReader_init pm_BitReader_init an_BitReader_init cd_BitReader_init ct_BitReader_init), sl_BitReader_init⟩)
    (c_BitReader_init : PySem.W.codeIn K cd_BitReader_init "BitReader.__init__" = true)
    (k_BitReader_init : PySem.W.keepIn K (.ref f_BitReader_init) = true)
    (a_BitReader_unsigned : PySem.W.findIn K (.ref c_BitReader) "unsigned" = some (some (.ref f_BitReader_unsigned)))
    (i_BitReader_unsigned : PySem.W.isFn K (.ref f_BitReader_unsigned) = true)
    (l_BitReader_unsigned : K.lookup f_BitReader_unsigned = some ⟨oc_BitReader_unsigned, od_BitReader_unsigned, .func (PySem.W.fnOf "unsigned" "BitReader.unsigned" (defArgs s_BitReader_unsigned) (defBody s_BitReader_unsigned) (defScope s_BitReader_unsigned) .none kV_BitReader_unsigned dc_BitReader_unsigned pm_BitReader_unsigned an_BitReader_unsigned cd_BitReader_unsigned ct_BitReader_unsigned), sl_BitReader_unsigned⟩)
    (c_BitReader_unsigned : PySem.W.codeIn K cd_BitReader_unsigned "BitReader.unsigned" = true)
    (k_BitReader_unsigned : PySem.W.keepIn K (.ref f_BitReader_unsigned) = true)
    (a_BitReader_signed : PySem.W.findIn K (.ref c_BitReader) "signed" = some (some (.ref f_BitReader_signed)))
    (i_BitReader_signed : PySem.W.isFn K (.ref f_BitReader_signed) = true)
    (l_BitReader_signed : K.lookup f_BitReader_signed = some ⟨oc_BitReader_signed, od_BitReader_signed, .func (PySem.W.fnOf "signed" "BitReader.signed" (defArgs s_BitReader_signed) (defBody s_BitReader_signed) (defScope s_BitReader_signed) .none kV_BitReader_signed dc_BitReader_signed pm_BitReader_signed an_BitReader_signed cd_BitReader_signed ct_BitReader_signed), sl_BitReader_signed⟩)
    (c_BitReader_signed : PySem.W.codeIn K cd_BitReader_signed "BitReader.signed" = true)
    (k_BitReader_signed : PySem.W.keepIn K (.ref f_BitReader_signed) = true)
    (a_BitReader_run : PySem.W.findIn K (.ref c_BitReader) "run" = some (some (.ref f_BitReader_run)))
    (i_BitReader_run : PySem.W.isFn K (.ref f_BitReader_run) = true)
    (l_BitReader_run : K.lookup f_BitReader_run = some ⟨oc_BitReader_run, od_BitReader_run, .func (PySem.W.fnOf "run" "BitReader.run" (defArgs s_BitReader_run) (defBody s_BitReader_run) (defScope s_BitReader_run) .none kV_BitReader_run dc_BitReader_run pm_BitReader_run an_BitReader_run cd_BitReader_run ct_BitReader_run), sl_BitReader_run⟩)
    (c_BitReader_run : PySem.W.codeIn K cd_BitReader_run "BitReader.run" = true)
    (k_BitReader_run : PySem.W.keepIn K (.ref f_BitReader_run) = true)
    (a_Form_init : PySem.W.findIn K (.ref c_Form) "__init__" = some (some (.ref f_Form_init)))
    (i_Form_init : PySem.W.isFn K (.ref f_Form_init) = true)
    (l_Form_init : K.lookup f_Form_init = some ⟨oc_Form_init, od_Form_init, .func (PySem.W.fnOf "__init__" "Form.__init__" (defArgs s_Form_init) (defBody s_Form_init) (defScope s_Form_init) .none kV_Form_init dc_Form_init pm_Form_init an_Form_init cd_Form_init ct_Form_init), sl_Form_init⟩)
    (c_Form_init : PySem.W.codeIn K cd_Form_init "Form.__init__" = true)
    (k_Form_init : PySem.W.keepIn K (.ref f_Form_init) = true)
    (a_Guess_init : PySem.W.findIn K (.ref c_Guess) "__init__" = some (some (.ref f_Guess_init)))
    (i_Guess_init : PySem.W.isFn K (.ref f_Guess_init) = true)
    (l_Guess_init : K.lookup f_Guess_init = some ⟨oc_Guess_init, od_Guess_init, .func (PySem.W.fnOf "__init__" "Guess.__init__" (defArgs s_Guess_init) (defBody s_Guess_init) (defScope s_Guess_init) .none kV_Guess_init dc_Guess_init pm_Guess_init an_Guess_init cd_Guess_init ct_Guess_init), sl_Guess_init⟩)
    (c_Guess_init : PySem.W.codeIn K cd_Guess_init "Guess.__init__" = true)
    (k_Guess_init : PySem.W.keepIn K (.ref f_Guess_init) = true)
    (a_Guess_at : PySem.W.findIn K (.ref c_Guess) "at" = some (some (.ref f_Guess_at)))
    (i_Guess_at : PySem.W.isFn K (.ref f_Guess_at) = true)
    (l_Guess_at : K.lookup f_Guess_at = some ⟨oc_Guess_at, od_Guess_at, .func (PySem.W.fnOf "at" "Guess.at" (defArgs s_Guess_at) (defBody s_Guess_at) (defScope s_Guess_at) .none kV_Guess_at dc_Guess_at pm_Guess_at an_Guess_at cd_Guess_at ct_Guess_at), sl_Guess_at⟩)
    (c_Guess_at : PySem.W.codeIn K cd_Guess_at "Guess.at" = true)
    (k_Guess_at : PySem.W.keepIn K (.ref f_Guess_at) = true)
    (a_PartTaken_init : PySem.W.findIn K (.ref c_PartTaken) "__init__" = some (some (.ref f_PartTaken_init)))
    (i_PartTaken_init : PySem.W.isFn K (.ref f_PartTaken_init) = true)
    (l_PartTaken_init : K.lookup f_PartTaken_init = some ⟨oc_PartTaken_init, od_PartTaken_init, .func (PySem.W.fnOf "__init__" "PartTaken.__init__" (defArgs s_PartTaken_init) (defBody s_PartTaken_init) (defScope s_PartTaken_init) .none kV_PartTaken_init dc_PartTaken_init pm_PartTaken_init an_PartTaken_init cd_PartTaken_init ct_PartTaken_init), sl_PartTaken_init⟩)
    (c_PartTaken_init : PySem.W.codeIn K cd_PartTaken_init "PartTaken.__init__" = true)
    (k_PartTaken_init : PySem.W.keepIn K (.ref f_PartTaken_init) = true)
    (a_PartTaken_take : PySem.W.findIn K (.ref c_PartTaken) "take" = some (some (.ref f_PartTaken_take)))
    (i_PartTaken_take : PySem.W.isFn K (.ref f_PartTaken_take) = true)
    (l_PartTaken_take : K.lookup f_PartTaken_take = some ⟨oc_PartTaken_take, od_PartTaken_take, .func (PySem.W.fnOf "take" "PartTaken.take" (defArgs s_PartTaken_take) (defBody s_PartTaken_take) (defScope s_PartTaken_take) .none kV_PartTaken_take dc_PartTaken_take pm_PartTaken_take an_PartTaken_take cd_PartTaken_take ct_PartTaken_take), sl_PartTaken_take⟩)
    (c_PartTaken_take : PySem.W.codeIn K cd_PartTaken_take "PartTaken.take" = true)
    (k_PartTaken_take : PySem.W.keepIn K (.ref f_PartTaken_take) = true)
    (a_PartTaken_take_rest : PySem.W.findIn K (.ref c_PartTaken) "take_rest" = some (some (.ref f_PartTaken_take_rest)))
    (i_PartTaken_take_rest : PySem.W.isFn K (.ref f_PartTaken_take_rest) = true)
    (l_PartTaken_take_rest : K.lookup f_PartTaken_take_rest = some ⟨oc_PartTaken_take_rest, od_PartTaken_take_rest, .func (PySem.W.fnOf "take_rest" "PartTaken.take_rest" (defArgs s_PartTaken_take_rest) (defBody s_PartTaken_take_rest) (defScope s_PartTaken_take_rest) .none kV_PartTaken_take_rest dc_PartTaken_take_rest pm_PartTaken_take_rest an_PartTaken_take_rest cd_PartTaken_take_rest ct_PartTaken_take_rest), sl_PartTaken_take_rest⟩)
    (c_PartTaken_take_rest : PySem.W.codeIn K cd_PartTaken_take_rest "PartTaken.take_rest" = true)
    (k_PartTaken_take_rest : PySem.W.keepIn K (.ref f_PartTaken_take_rest) = true)
    (a_Partner_init : PySem.W.findIn K (.ref c_Partner) "__init__" = some (some (.ref f_Partner_init)))
    (i_Partner_init : PySem.W.isFn K (.ref f_Partner_init) = true)
    (l_Partner_init : K.lookup f_Partner_init = some ⟨oc_Partner_init, od_Partner_init, .func (PySem.W.fnOf "__init__" "Partner.__init__" (defArgs s_Partner_init) (defBody s_Partner_init) (defScope s_Partner_init) .none kV_Partner_init dc_Partner_init pm_Partner_init an_Partner_init cd_Partner_init ct_Partner_init), sl_Partner_init⟩)
    (c_Partner_init : PySem.W.codeIn K cd_Partner_init "Partner.__init__" = true)
    (k_Partner_init : PySem.W.keepIn K (.ref f_Partner_init) = true)
    (a_Partner_judge : PySem.W.findIn K (.ref c_Partner) "judge" = some (some (.ref f_Partner_judge)))
    (i_Partner_judge : PySem.W.isFn K (.ref f_Partner_judge) = true)
    (l_Partner_judge : K.lookup f_Partner_judge = some ⟨oc_Partner_judge, od_Partner_judge, .func (PySem.W.fnOf "judge" "Partner.judge" (defArgs s_Partner_judge) (defBody s_Partner_judge) (defScope s_Partner_judge) .none kV_Partner_judge dc_Partner_judge pm_Partner_judge an_Partner_judge cd_Partner_judge ct_Partner_judge), sl_Partner_judge⟩)
    (c_Partner_judge : PySem.W.codeIn K cd_Partner_judge "Partner.judge" = true)
    (k_Partner_judge : PySem.W.keepIn K (.ref f_Partner_judge) = true)
    (a_FrameTaken_init : PySem.W.findIn K (.ref c_FrameTaken) "__init__" = some (some (.ref f_FrameTaken_init)))
    (i_FrameTaken_init : PySem.W.isFn K (.ref f_FrameTaken_init) = true)
    (l_FrameTaken_init : K.lookup f_FrameTaken_init = some ⟨oc_FrameTaken_init, od_FrameTaken_init, .func (PySem.W.fnOf "__init__" "FrameTaken.__init__" (defArgs s_FrameTaken_init) (defBody s_FrameTaken_init) (defScope s_FrameTaken_init) .none kV_FrameTaken_init dc_FrameTaken_init pm_FrameTaken_init an_FrameTaken_init cd_FrameTaken_init ct_FrameTaken_init), sl_FrameTaken_init⟩)
    (c_FrameTaken_init : PySem.W.codeIn K cd_FrameTaken_init "FrameTaken.__init__" = true)
    (k_FrameTaken_init : PySem.W.keepIn K (.ref f_FrameTaken_init) = true)
    (pg_BitReader : PySem.W.plainGet K c_BitReader Str.empty = true)
    (hd_BitReader : PySem.W.hasDictIn K c_BitReader = true)
    (po_BitReader : PySem.W.plainOver K c_BitReader = true)
    (sa_BitReader : PySem.W.findIn K (.ref c_BitReader) "__setattr__" = some (some (.builtin "object.__setattr__")))
    (mk_BitReader : PySem.W.makesIn K c_BitReader = true)
    (kc_BitReader : PySem.W.keepIn K (.ref c_BitReader) = true)
    (n_BitReader_data : PySem.W.findIn K (.ref c_BitReader) "data" = some none)
    (n_BitReader_place : PySem.W.findIn K (.ref c_BitReader) "place" = some none)
    (pg_Form : PySem.W.plainGet K c_Form Str.empty = true)
    (hd_Form : PySem.W.hasDictIn K c_Form = true)
    (po_Form : PySem.W.plainOver K c_Form = true)
    (sa_Form : PySem.W.findIn K (.ref c_Form) "__setattr__" = some (some (.builtin "object.__setattr__")))
    (mk_Form : PySem.W.makesIn K c_Form = true)
    (kc_Form : PySem.W.keepIn K (.ref c_Form) = true)
    (n_Form_channels : PySem.W.findIn K (.ref c_Form) "channels" = some none)
    (n_Form_depth : PySem.W.findIn K (.ref c_Form) "depth" = some none)
    (n_Form_block : PySem.W.findIn K (.ref c_Form) "block" = some none)
    (n_Form_order : PySem.W.findIn K (.ref c_Form) "order" = some none)
    (n_Form_group : PySem.W.findIn K (.ref c_Form) "group" = some none)
    (n_Form_spare : PySem.W.findIn K (.ref c_Form) "spare" = some none)
    (pg_Guess : PySem.W.plainGet K c_Guess Str.empty = true)
    (hd_Guess : PySem.W.hasDictIn K c_Guess = true)
    (po_Guess : PySem.W.plainOver K c_Guess = true)
    (sa_Guess : PySem.W.findIn K (.ref c_Guess) "__setattr__" = some (some (.builtin "object.__setattr__")))
    (mk_Guess : PySem.W.makesIn K c_Guess = true)
    (kc_Guess : PySem.W.keepIn K (.ref c_Guess) = true)
    (n_Guess_factors : PySem.W.findIn K (.ref c_Guess) "factors" = some none)
    (n_Guess_shift : PySem.W.findIn K (.ref c_Guess) "shift" = some none)
    (pg_PartTaken : PySem.W.plainGet K c_PartTaken Str.empty = true)
    (hd_PartTaken : PySem.W.hasDictIn K c_PartTaken = true)
    (po_PartTaken : PySem.W.plainOver K c_PartTaken = true)
    (sa_PartTaken : PySem.W.findIn K (.ref c_PartTaken) "__setattr__" = some (some (.builtin "object.__setattr__")))
    (mk_PartTaken : PySem.W.makesIn K c_PartTaken = true)
    (kc_PartTaken : PySem.W.keepIn K (.ref c_PartTaken) = true)
    (n_PartTaken_width : PySem.W.findIn K (.ref c_PartTaken) "width" = some none)
    (n_PartTaken_z : PySem.W.findIn K (.ref c_PartTaken) "z" = some none)
    (n_PartTaken_partner : PySem.W.findIn K (.ref c_PartTaken) "partner" = some none)
    (n_PartTaken_guess : PySem.W.findIn K (.ref c_PartTaken) "guess" = some none)
    (n_PartTaken_taken : PySem.W.findIn K (.ref c_PartTaken) "taken" = some none)
    (pg_Partner : PySem.W.plainGet K c_Partner Str.empty = true)
    (hd_Partner : PySem.W.hasDictIn K c_Partner = true)
    (po_Partner : PySem.W.plainOver K c_Partner = true)
    (sa_Partner : PySem.W.findIn K (.ref c_Partner) "__setattr__" = some (some (.builtin "object.__setattr__")))
    (mk_Partner : PySem.W.makesIn K c_Partner = true)
    (kc_Partner : PySem.W.keepIn K (.ref c_Partner) = true)
    (n_Partner_mode : PySem.W.findIn K (.ref c_Partner) "mode" = some none)
    (n_Partner_depth : PySem.W.findIn K (.ref c_Partner) "depth" = some none)
    (n_Partner_numbers : PySem.W.findIn K (.ref c_Partner) "numbers" = some none)
    (pg_FrameTaken : PySem.W.plainGet K c_FrameTaken Str.empty = true)
    (hd_FrameTaken : PySem.W.hasDictIn K c_FrameTaken = true)
    (po_FrameTaken : PySem.W.plainOver K c_FrameTaken = true)
    (sa_FrameTaken : PySem.W.findIn K (.ref c_FrameTaken) "__setattr__" = some (some (.builtin "object.__setattr__")))
    (mk_FrameTaken : PySem.W.makesIn K c_FrameTaken = true)
    (kc_FrameTaken : PySem.W.keepIn K (.ref c_FrameTaken) = true)
    (n_FrameTaken_size : PySem.W.findIn K (.ref c_FrameTaken) "size" = some none)
    (n_FrameTaken_k : PySem.W.findIn K (.ref c_FrameTaken) "k" = some none)
    (n_FrameTaken_n : PySem.W.findIn K (.ref c_FrameTaken) "n" = some none)
    (n_FrameTaken_numbers : PySem.W.findIn K (.ref c_FrameTaken) "numbers" = some none)
    (x_Short : PySem.W.excIn K c_Short EXB "Exception.__new__" = true)
    (y_Short : baseIn K c_Short = true)
    (x_Wrong : PySem.W.excIn K c_Wrong EXB "Exception.__new__" = true)
    (y_Wrong : baseIn K c_Wrong = true)
    (g_FACTOR_WIDTH : PySem.W.nsIn K mainGlobals "FACTOR_WIDTH" = some (some (.int 12 t_FACTOR_WIDTH)))
    (g_GREATEST_SPLIT : PySem.W.nsIn K mainGlobals "GREATEST_SPLIT" = some (some (.int 6 t_GREATEST_SPLIT)))
    (g_PLAIN : PySem.W.nsIn K mainGlobals "PLAIN" = some (some (.int 31 t_PLAIN)))
    (g_GREATEST_PLAIN_WIDTH : PySem.W.nsIn K mainGlobals "GREATEST_PLAIN_WIDTH" = some (some (.int 40 t_GREATEST_PLAIN_WIDTH)))
    (g_GREATEST_FOLDED : PySem.W.nsIn K mainGlobals "GREATEST_FOLDED" = some (some (.int 1099511627775 t_GREATEST_FOLDED)))
    (g_SAME : PySem.W.nsIn K mainGlobals "SAME" = some (some (.int 0 t_SAME)))
    (g_PLAIN_KIND : PySem.W.nsIn K mainGlobals "PLAIN_KIND" = some (some (.int 1 t_PLAIN_KIND)))
    (g_FIRST_FIXED : PySem.W.nsIn K mainGlobals "FIRST_FIXED" = some (some (.int 2 t_FIRST_FIXED)))
    (g_FIRST_LINEAR : PySem.W.nsIn K mainGlobals "FIRST_LINEAR" = some (some (.int 7 t_FIRST_LINEAR)))
    (g_LAST_KIND : PySem.W.nsIn K mainGlobals "LAST_KIND" = some (some (.int 10 t_LAST_KIND)))
    (g_MARK_frames : PySem.W.nsIn K mainGlobals "MARK" = some (some (.int 19287 t_MARK_frames)))
    (g_LONGEST : PySem.W.nsIn K mainGlobals "LONGEST" = some (some (.int 4096 t_LONGEST)))
    (g_RANGES : PySem.W.nsIn K mainGlobals "RANGES" = some (some (.ref a_RANGES)))
    (t_RANGES : K.lookup a_RANGES = some ⟨.type "tuple", dT_RANGES, .seq #[.ref a_RANGES_0, .ref a_RANGES_1, .ref a_RANGES_2, .ref a_RANGES_3, .ref a_RANGES_4, .ref a_RANGES_5] nT_RANGES, sT_RANGES⟩)
    (t_RANGES_0 : K.lookup a_RANGES_0 = some ⟨.type "tuple", dT_RANGES_0, .seq #[.int (1) tk_RANGES_0_0, .int (4) tk_RANGES_0_1] nT_RANGES_0, sT_RANGES_0⟩)
    (t_RANGES_1 : K.lookup a_RANGES_1 = some ⟨.type "tuple", dT_RANGES_1, .seq #[.int (4) tk_RANGES_1_0, .int (24) tk_RANGES_1_1] nT_RANGES_1, sT_RANGES_1⟩)
    (t_RANGES_2 : K.lookup a_RANGES_2 = some ⟨.type "tuple", dT_RANGES_2, .seq #[.int (16) tk_RANGES_2_0, .int (256) tk_RANGES_2_1] nT_RANGES_2, sT_RANGES_2⟩)
    (t_RANGES_3 : K.lookup a_RANGES_3 = some ⟨.type "tuple", dT_RANGES_3, .seq #[.int (0) tk_RANGES_3_0, .int (4) tk_RANGES_3_1] nT_RANGES_3, sT_RANGES_3⟩)
    (t_RANGES_4 : K.lookup a_RANGES_4 = some ⟨.type "tuple", dT_RANGES_4, .seq #[.int (1) tk_RANGES_4_0, .int (8) tk_RANGES_4_1] nT_RANGES_4, sT_RANGES_4⟩)
    (t_RANGES_5 : K.lookup a_RANGES_5 = some ⟨.type "tuple", dT_RANGES_5, .seq #[.int (0) tk_RANGES_5_0, .int (4) tk_RANGES_5_1] nT_RANGES_5, sT_RANGES_5⟩)
    (g_FIXED : PySem.W.nsIn K mainGlobals "FIXED" = some (some (.ref a_FIXED)))
    (t_FIXED : K.lookup a_FIXED = some ⟨.type "tuple", dT_FIXED, .seq #[.ref a_FIXED_0, .ref a_FIXED_1, .ref a_FIXED_2, .ref a_FIXED_3, .ref a_FIXED_4] nT_FIXED, sT_FIXED⟩)
    (t_FIXED_0 : K.lookup a_FIXED_0 = some ⟨.type "tuple", dT_FIXED_0, .seq #[] nT_FIXED_0, sT_FIXED_0⟩)
    (t_FIXED_1 : K.lookup a_FIXED_1 = some ⟨.type "tuple", dT_FIXED_1, .seq #[.int (1) tk_FIXED_1_0] nT_FIXED_1, sT_FIXED_1⟩)
    (t_FIXED_2 : K.lookup a_FIXED_2 = some ⟨.type "tuple", dT_FIXED_2, .seq #[.int (2) tk_FIXED_2_0, .int (-1) tk_FIXED_2_1] nT_FIXED_2, sT_FIXED_2⟩)
    (t_FIXED_3 : K.lookup a_FIXED_3 = some ⟨.type "tuple", dT_FIXED_3, .seq #[.int (3) tk_FIXED_3_0, .int (-3) tk_FIXED_3_1, .int (1) tk_FIXED_3_2] nT_FIXED_3, sT_FIXED_3⟩)
    (t_FIXED_4 : K.lookup a_FIXED_4 = some ⟨.type "tuple", dT_FIXED_4, .seq #[.int (4) tk_FIXED_4_0, .int (-6) tk_FIXED_4_1, .int (4) tk_FIXED_4_2, .int (-1) tk_FIXED_4_3] nT_FIXED_4, sT_FIXED_4⟩)
    (z_all : PySem.W.nsIn K mainGlobals "all" = some none)
    (z_len : PySem.W.nsIn K mainGlobals "len" = some none)
    (z_list : PySem.W.nsIn K mainGlobals "list" = some none)
    (z_range : PySem.W.nsIn K mainGlobals "range" = some none)
    (z_zip : PySem.W.nsIn K mainGlobals "zip" = some none)
    (d_Short_Wrong : (c_Short == c_Wrong) = false)
    : ∃ A : Adr, Txt K mg A := by
  have F_crc16 := fun_mk (st := s_crc16) l_crc16 c_crc16 k_crc16
  have F_is_form := fun_mk (st := s_is_form) l_is_form c_is_form k_is_form
  have F_fits := fun_mk (st := s_fits) l_fits c_fits k_fits
  have F_fixed_guess := fun_mk (st := s_fixed_guess) l_fixed_guess c_fixed_guess k_fixed_guess
  have F_unfolded_rest := fun_mk (st := s_unfolded_rest) l_unfolded_rest c_unfolded_rest k_unfolded_rest
  have F_can_split := fun_mk (st := s_can_split) l_can_split c_can_split k_can_split
  have F_read_rests := fun_mk (st := s_read_rests) l_read_rests c_read_rests k_read_rests
  have F_read_group := fun_mk (st := s_read_group) l_read_group c_read_group k_read_group
  have F_read_plain := fun_mk (st := s_read_plain) l_read_plain c_read_plain k_read_plain
  have F_order_of_kind := fun_mk (st := s_order_of_kind) l_order_of_kind c_order_of_kind k_order_of_kind
  have F_read_part := fun_mk (st := s_read_part) l_read_part c_read_part k_read_part
  have F_read_zeros := fun_mk (st := s_read_zeros) l_read_zeros c_read_zeros k_read_zeros
  have F_read_plainly := fun_mk (st := s_read_plainly) l_read_plainly c_read_plainly k_read_plainly
  have F_read_guessed := fun_mk (st := s_read_guessed) l_read_guessed c_read_guessed k_read_guessed
  have F_joined_pair := fun_mk (st := s_joined_pair) l_joined_pair c_joined_pair k_joined_pair
  have F_first_width := fun_mk (st := s_first_width) l_first_width c_first_width k_first_width
  have F_second_width := fun_mk (st := s_second_width) l_second_width c_second_width k_second_width
  have F_read_frame := fun_mk (st := s_read_frame) l_read_frame c_read_frame k_read_frame
  have F_read_items := fun_mk (st := s_read_items) l_read_items c_read_items k_read_items
  have F_read_channels := fun_mk (st := s_read_channels) l_read_channels c_read_channels k_read_channels
  have F_read_pair := fun_mk (st := s_read_pair) l_read_pair c_read_pair k_read_pair
  have F_read_end := fun_mk (st := s_read_end) l_read_end c_read_end k_read_end
  have F_unframe := fun_mk (st := s_unframe) l_unframe c_unframe k_unframe
  have F_BitReader_init := fun_mk (st := s_BitReader_init) l_BitReader_init c_BitReader_init k_BitReader_init
  have F_BitReader_unsigned := fun_mk (st := s_BitReader_unsigned) l_BitReader_unsigned c_BitReader_unsigned k_BitReader_unsigned
  have F_BitReader_signed := fun_mk (st := s_BitReader_signed) l_BitReader_signed c_BitReader_signed k_BitReader_signed
  have F_BitReader_run := fun_mk (st := s_BitReader_run) l_BitReader_run c_BitReader_run k_BitReader_run
  have F_Form_init := fun_mk (st := s_Form_init) l_Form_init c_Form_init k_Form_init
  have F_Guess_init := fun_mk (st := s_Guess_init) l_Guess_init c_Guess_init k_Guess_init
  have F_Guess_at := fun_mk (st := s_Guess_at) l_Guess_at c_Guess_at k_Guess_at
  have F_PartTaken_init := fun_mk (st := s_PartTaken_init) l_PartTaken_init c_PartTaken_init k_PartTaken_init
  have F_PartTaken_take := fun_mk (st := s_PartTaken_take) l_PartTaken_take c_PartTaken_take k_PartTaken_take
  have F_PartTaken_take_rest := fun_mk (st := s_PartTaken_take_rest) l_PartTaken_take_rest c_PartTaken_take_rest k_PartTaken_take_rest
  have F_Partner_init := fun_mk (st := s_Partner_init) l_Partner_init c_Partner_init k_Partner_init
  have F_Partner_judge := fun_mk (st := s_Partner_judge) l_Partner_judge c_Partner_judge k_Partner_judge
  have F_FrameTaken_init := fun_mk (st := s_FrameTaken_init) l_FrameTaken_init c_FrameTaken_init k_FrameTaken_init
  refine ⟨⟨f_crc16, PySem.W.fnOf "crc16" "crc16" (defArgs s_crc16) (defBody s_crc16) (defScope s_crc16) .none kV_crc16 dc_crc16 pm_crc16 an_crc16 cd_crc16 ct_crc16, f_is_form, PySem.W.fnOf "is_form" "is_form" (defArgs s_is_form) (defBody s_is_form) (defScope s_is_form) .none kV_is_form dc_is_form pm_is_form an_is_form cd_is_form ct_is_form, f_fits, PySem.W.fnOf "fits" "fits" (defArgs s_fits) (defBody s_fits) (defScope s_fits) .none kV_fits dc_fits pm_fits an_fits cd_fits ct_fits, f_fixed_guess, PySem.W.fnOf "fixed_guess" "fixed_guess" (defArgs s_fixed_guess) (defBody s_fixed_guess) (defScope s_fixed_guess) .none kV_fixed_guess dc_fixed_guess pm_fixed_guess an_fixed_guess cd_fixed_guess ct_fixed_guess, f_unfolded_rest, PySem.W.fnOf "unfolded_rest" "unfolded_rest" (defArgs s_unfolded_rest) (defBody s_unfolded_rest) (defScope s_unfolded_rest) .none kV_unfolded_rest dc_unfolded_rest pm_unfolded_rest an_unfolded_rest cd_unfolded_rest ct_unfolded_rest, f_can_split, PySem.W.fnOf "can_split" "can_split" (defArgs s_can_split) (defBody s_can_split) (defScope s_can_split) .none kV_can_split dc_can_split pm_can_split an_can_split cd_can_split ct_can_split, f_read_rests, PySem.W.fnOf "read_rests" "read_rests" (defArgs s_read_rests) (defBody s_read_rests) (defScope s_read_rests) .none kV_read_rests dc_read_rests pm_read_rests an_read_rests cd_read_rests ct_read_rests, f_read_group, PySem.W.fnOf "read_group" "read_group" (defArgs s_read_group) (defBody s_read_group) (defScope s_read_group) .none kV_read_group dc_read_group pm_read_group an_read_group cd_read_group ct_read_group, f_read_plain, PySem.W.fnOf "read_plain" "read_plain" (defArgs s_read_plain) (defBody s_read_plain) (defScope s_read_plain) .none kV_read_plain dc_read_plain pm_read_plain an_read_plain cd_read_plain ct_read_plain, f_order_of_kind, PySem.W.fnOf "order_of_kind" "order_of_kind" (defArgs s_order_of_kind) (defBody s_order_of_kind) (defScope s_order_of_kind) .none kV_order_of_kind dc_order_of_kind pm_order_of_kind an_order_of_kind cd_order_of_kind ct_order_of_kind, f_read_part, PySem.W.fnOf "read_part" "read_part" (defArgs s_read_part) (defBody s_read_part) (defScope s_read_part) .none kV_read_part dc_read_part pm_read_part an_read_part cd_read_part ct_read_part, f_read_zeros, PySem.W.fnOf "read_zeros" "read_zeros" (defArgs s_read_zeros) (defBody s_read_zeros) (defScope s_read_zeros) .none kV_read_zeros dc_read_zeros pm_read_zeros an_read_zeros cd_read_zeros ct_read_zeros, f_read_plainly, PySem.W.fnOf "read_plainly" "read_plainly" (defArgs s_read_plainly) (defBody s_read_plainly) (defScope s_read_plainly) .none kV_read_plainly dc_read_plainly pm_read_plainly an_read_plainly cd_read_plainly ct_read_plainly, f_read_guessed, PySem.W.fnOf "read_guessed" "read_guessed" (defArgs s_read_guessed) (defBody s_read_guessed) (defScope s_read_guessed) .none kV_read_guessed dc_read_guessed pm_read_guessed an_read_guessed cd_read_guessed ct_read_guessed, f_joined_pair, PySem.W.fnOf "joined_pair" "joined_pair" (defArgs s_joined_pair) (defBody s_joined_pair) (defScope s_joined_pair) .none kV_joined_pair dc_joined_pair pm_joined_pair an_joined_pair cd_joined_pair ct_joined_pair, f_first_width, PySem.W.fnOf "first_width" "first_width" (defArgs s_first_width) (defBody s_first_width) (defScope s_first_width) .none kV_first_width dc_first_width pm_first_width an_first_width cd_first_width ct_first_width, f_second_width, PySem.W.fnOf "second_width" "second_width" (defArgs s_second_width) (defBody s_second_width) (defScope s_second_width) .none kV_second_width dc_second_width pm_second_width an_second_width cd_second_width ct_second_width, f_read_frame, PySem.W.fnOf "read_frame" "read_frame" (defArgs s_read_frame) (defBody s_read_frame) (defScope s_read_frame) .none kV_read_frame dc_read_frame pm_read_frame an_read_frame cd_read_frame ct_read_frame, f_read_items, PySem.W.fnOf "read_items" "read_items" (defArgs s_read_items) (defBody s_read_items) (defScope s_read_items) .none kV_read_items dc_read_items pm_read_items an_read_items cd_read_items ct_read_items, f_read_channels, PySem.W.fnOf "read_channels" "read_channels" (defArgs s_read_channels) (defBody s_read_channels) (defScope s_read_channels) .none kV_read_channels dc_read_channels pm_read_channels an_read_channels cd_read_channels ct_read_channels, f_read_pair, PySem.W.fnOf "read_pair" "read_pair" (defArgs s_read_pair) (defBody s_read_pair) (defScope s_read_pair) .none kV_read_pair dc_read_pair pm_read_pair an_read_pair cd_read_pair ct_read_pair, f_read_end, PySem.W.fnOf "read_end" "read_end" (defArgs s_read_end) (defBody s_read_end) (defScope s_read_end) .none kV_read_end dc_read_end pm_read_end an_read_end cd_read_end ct_read_end, f_unframe, PySem.W.fnOf "unframe" "unframe" (defArgs s_unframe) (defBody s_unframe) (defScope s_unframe) .none kV_unframe dc_unframe pm_unframe an_unframe cd_unframe ct_unframe, f_BitReader_init, PySem.W.fnOf "__init__" "BitReader.__init__" (defArgs s_BitReader_init) (defBody s_BitReader_init) (defScope s_BitReader_init) .none kV_BitReader_init dc_BitReader_init pm_BitReader_init an_BitReader_init cd_BitReader_init ct_BitReader_init, f_BitReader_unsigned, PySem.W.fnOf "unsigned" "BitReader.unsigned" (defArgs s_BitReader_unsigned) (defBody s_BitReader_unsigned) (defScope s_BitReader_unsigned) .none kV_BitReader_unsigned dc_BitReader_unsigned pm_BitReader_unsigned an_BitReader_unsigned cd_BitReader_unsigned ct_BitReader_unsigned, f_BitReader_signed, PySem.W.fnOf "signed" "BitReader.signed" (defArgs s_BitReader_signed) (defBody s_BitReader_signed) (defScope s_BitReader_signed) .none kV_BitReader_signed dc_BitReader_signed pm_BitReader_signed an_BitReader_signed cd_BitReader_signed ct_BitReader_signed, f_BitReader_run, PySem.W.fnOf "run" "BitReader.run" (defArgs s_BitReader_run) (defBody s_BitReader_run) (defScope s_BitReader_run) .none kV_BitReader_run dc_BitReader_run pm_BitReader_run an_BitReader_run cd_BitReader_run ct_BitReader_run, f_Form_init, PySem.W.fnOf "__init__" "Form.__init__" (defArgs s_Form_init) (defBody s_Form_init) (defScope s_Form_init) .none kV_Form_init dc_Form_init pm_Form_init an_Form_init cd_Form_init ct_Form_init, f_Guess_init, PySem.W.fnOf "__init__" "Guess.__init__" (defArgs s_Guess_init) (defBody s_Guess_init) (defScope s_Guess_init) .none kV_Guess_init dc_Guess_init pm_Guess_init an_Guess_init cd_Guess_init ct_Guess_init, f_Guess_at, PySem.W.fnOf "at" "Guess.at" (defArgs s_Guess_at) (defBody s_Guess_at) (defScope s_Guess_at) .none kV_Guess_at dc_Guess_at pm_Guess_at an_Guess_at cd_Guess_at ct_Guess_at, f_PartTaken_init, PySem.W.fnOf "__init__" "PartTaken.__init__" (defArgs s_PartTaken_init) (defBody s_PartTaken_init) (defScope s_PartTaken_init) .none kV_PartTaken_init dc_PartTaken_init pm_PartTaken_init an_PartTaken_init cd_PartTaken_init ct_PartTaken_init, f_PartTaken_take, PySem.W.fnOf "take" "PartTaken.take" (defArgs s_PartTaken_take) (defBody s_PartTaken_take) (defScope s_PartTaken_take) .none kV_PartTaken_take dc_PartTaken_take pm_PartTaken_take an_PartTaken_take cd_PartTaken_take ct_PartTaken_take, f_PartTaken_take_rest, PySem.W.fnOf "take_rest" "PartTaken.take_rest" (defArgs s_PartTaken_take_rest) (defBody s_PartTaken_take_rest) (defScope s_PartTaken_take_rest) .none kV_PartTaken_take_rest dc_PartTaken_take_rest pm_PartTaken_take_rest an_PartTaken_take_rest cd_PartTaken_take_rest ct_PartTaken_take_rest, f_Partner_init, PySem.W.fnOf "__init__" "Partner.__init__" (defArgs s_Partner_init) (defBody s_Partner_init) (defScope s_Partner_init) .none kV_Partner_init dc_Partner_init pm_Partner_init an_Partner_init cd_Partner_init ct_Partner_init, f_Partner_judge, PySem.W.fnOf "judge" "Partner.judge" (defArgs s_Partner_judge) (defBody s_Partner_judge) (defScope s_Partner_judge) .none kV_Partner_judge dc_Partner_judge pm_Partner_judge an_Partner_judge cd_Partner_judge ct_Partner_judge, f_FrameTaken_init, PySem.W.fnOf "__init__" "FrameTaken.__init__" (defArgs s_FrameTaken_init) (defBody s_FrameTaken_init) (defScope s_FrameTaken_init) .none kV_FrameTaken_init dc_FrameTaken_init pm_FrameTaken_init an_FrameTaken_init cd_FrameTaken_init ct_FrameTaken_init, c_BitReader, c_Form, c_Guess, c_PartTaken, c_Partner, c_FrameTaken, c_Short, c_Wrong, t_FACTOR_WIDTH, t_GREATEST_SPLIT, t_PLAIN, t_GREATEST_PLAIN_WIDTH, t_GREATEST_FOLDED, t_SAME, t_PLAIN_KIND, t_FIRST_FIXED, t_FIRST_LINEAR, t_LAST_KIND, t_MARK_frames, t_LONGEST, a_RANGES, a_RANGES_0, a_RANGES_1, a_RANGES_2, a_RANGES_3, a_RANGES_4, a_RANGES_5, a_FIXED, a_FIXED_0, a_FIXED_1, a_FIXED_2, a_FIXED_3, a_FIXED_4⟩, ?_⟩
  exact {
    F_crc16 := F_crc16,
    b_crc16 := F_crc16.binds (ps := ["data"]) fun _ _ _ _ _ _ us hl => match us, hl with | [_], _ => rfl,
    m_crc16 := PySem.W.mg_of X G a_crc16,
    F_is_form := F_is_form,
    b_is_form := F_is_form.binds (ps := ["form"]) fun _ _ _ _ _ _ us hl => match us, hl with | [_], _ => rfl,
    m_is_form := PySem.W.mg_of X G a_is_form,
    F_fits := F_fits,
    b_fits := F_fits.binds (ps := ["width", "number"]) fun _ _ _ _ _ _ us hl => match us, hl with | [_, _], _ => rfl,
    m_fits := PySem.W.mg_of X G a_fits,
    F_fixed_guess := F_fixed_guess,
    b_fixed_guess := F_fixed_guess.binds (ps := ["order"]) fun _ _ _ _ _ _ us hl => match us, hl with | [_], _ => rfl,
    m_fixed_guess := PySem.W.mg_of X G a_fixed_guess,
    F_unfolded_rest := F_unfolded_rest,
    b_unfolded_rest := F_unfolded_rest.binds (ps := ["folded"]) fun _ _ _ _ _ _ us hl => match us, hl with | [_], _ => rfl,
    m_unfolded_rest := PySem.W.mg_of X G a_unfolded_rest,
    F_can_split := F_can_split,
    b_can_split := F_can_split.binds (ps := ["n", "order", "r"]) fun _ _ _ _ _ _ us hl => match us, hl with | [_, _, _], _ => rfl,
    m_can_split := PySem.W.mg_of X G a_can_split,
    F_read_rests := F_read_rests,
    b_read_rests := F_read_rests.binds (ps := ["reader", "n", "order", "part"]) fun _ _ _ _ _ _ us hl => match us, hl with | [_, _, _, _], _ => rfl,
    m_read_rests := PySem.W.mg_of X G a_read_rests,
    F_read_group := F_read_group,
    b_read_group := F_read_group.binds (ps := ["reader", "count", "part"]) fun _ _ _ _ _ _ us hl => match us, hl with | [_, _, _], _ => rfl,
    m_read_group := PySem.W.mg_of X G a_read_group,
    F_read_plain := F_read_plain,
    b_read_plain := F_read_plain.binds (ps := ["reader", "count", "part"]) fun _ _ _ _ _ _ us hl => match us, hl with | [_, _, _], _ => rfl,
    m_read_plain := PySem.W.mg_of X G a_read_plain,
    F_order_of_kind := F_order_of_kind,
    b_order_of_kind := F_order_of_kind.binds (ps := ["kind"]) fun _ _ _ _ _ _ us hl => match us, hl with | [_], _ => rfl,
    m_order_of_kind := PySem.W.mg_of X G a_order_of_kind,
    F_read_part := F_read_part,
    b_read_part := F_read_part.binds (ps := ["reader", "n", "width", "partner"]) fun _ _ _ _ _ _ us hl => match us, hl with | [_, _, _, _], _ => rfl,
    m_read_part := PySem.W.mg_of X G a_read_part,
    F_read_zeros := F_read_zeros,
    b_read_zeros := F_read_zeros.binds (ps := ["reader", "width"]) fun _ _ _ _ _ _ us hl => match us, hl with | [_, _], _ => rfl,
    m_read_zeros := PySem.W.mg_of X G a_read_zeros,
    F_read_plainly := F_read_plainly,
    b_read_plainly := F_read_plainly.binds (ps := ["reader", "count", "part"]) fun _ _ _ _ _ _ us hl => match us, hl with | [_, _, _], _ => rfl,
    m_read_plainly := PySem.W.mg_of X G a_read_plainly,
    F_read_guessed := F_read_guessed,
    b_read_guessed := F_read_guessed.binds (ps := ["reader", "n", "kind", "part"]) fun _ _ _ _ _ _ us hl => match us, hl with | [_, _, _, _], _ => rfl,
    m_read_guessed := PySem.W.mg_of X G a_read_guessed,
    F_joined_pair := F_joined_pair,
    b_joined_pair := F_joined_pair.binds (ps := ["mode", "x", "y"]) fun _ _ _ _ _ _ us hl => match us, hl with | [_, _, _], _ => rfl,
    m_joined_pair := PySem.W.mg_of X G a_joined_pair,
    F_first_width := F_first_width,
    b_first_width := F_first_width.binds (ps := ["mode", "depth"]) fun _ _ _ _ _ _ us hl => match us, hl with | [_, _], _ => rfl,
    m_first_width := PySem.W.mg_of X G a_first_width,
    F_second_width := F_second_width,
    b_second_width := F_second_width.binds (ps := ["mode", "depth"]) fun _ _ _ _ _ _ us hl => match us, hl with | [_, _], _ => rfl,
    m_second_width := PySem.W.mg_of X G a_second_width,
    F_read_frame := F_read_frame,
    b_read_frame := F_read_frame.binds (ps := ["form", "data"]) fun _ _ _ _ _ _ us hl => match us, hl with | [_, _], _ => rfl,
    m_read_frame := PySem.W.mg_of X G a_read_frame,
    F_read_items := F_read_items,
    b_read_items := F_read_items.binds (ps := ["form", "reader"]) fun _ _ _ _ _ _ us hl => match us, hl with | [_, _], _ => rfl,
    m_read_items := PySem.W.mg_of X G a_read_items,
    F_read_channels := F_read_channels,
    b_read_channels := F_read_channels.binds (ps := ["form", "n", "reader"]) fun _ _ _ _ _ _ us hl => match us, hl with | [_, _, _], _ => rfl,
    m_read_channels := PySem.W.mg_of X G a_read_channels,
    F_read_pair := F_read_pair,
    b_read_pair := F_read_pair.binds (ps := ["depth", "n", "mode", "reader"]) fun _ _ _ _ _ _ us hl => match us, hl with | [_, _, _, _], _ => rfl,
    m_read_pair := PySem.W.mg_of X G a_read_pair,
    F_read_end := F_read_end,
    b_read_end := F_read_end.binds (ps := ["reader"]) fun _ _ _ _ _ _ us hl => match us, hl with | [_], _ => rfl,
    m_read_end := PySem.W.mg_of X G a_read_end,
    F_unframe := F_unframe,
    b_unframe := F_unframe.binds (ps := ["form", "data"]) fun _ _ _ _ _ _ us hl => match us, hl with | [_, _], _ => rfl,
    m_unframe := PySem.W.mg_of X G a_unframe,
    F_BitReader_init := F_BitReader_init,
    b_BitReader_init := F_BitReader_init.binds (ps := ["self", "data"]) fun _ _ _ _ _ _ us hl => match us, hl with | [_, _], _ => rfl,
    F_BitReader_unsigned := F_BitReader_unsigned,
    b_BitReader_unsigned := F_BitReader_unsigned.binds (ps := ["self", "width"]) fun _ _ _ _ _ _ us hl => match us, hl with | [_, _], _ => rfl,
    e_BitReader_unsigned := ⟨a_BitReader_unsigned, i_BitReader_unsigned, k_BitReader_unsigned⟩,
    F_BitReader_signed := F_BitReader_signed,
    b_BitReader_signed := F_BitReader_signed.binds (ps := ["self", "width"]) fun _ _ _ _ _ _ us hl => match us, hl with | [_, _], _ => rfl,
    e_BitReader_signed := ⟨a_BitReader_signed, i_BitReader_signed, k_BitReader_signed⟩,
    F_BitReader_run := F_BitReader_run,
    b_BitReader_run := F_BitReader_run.binds (ps := ["self", "most"]) fun _ _ _ _ _ _ us hl => match us, hl with | [_, _], _ => rfl,
    e_BitReader_run := ⟨a_BitReader_run, i_BitReader_run, k_BitReader_run⟩,
    F_Form_init := F_Form_init,
    b_Form_init := F_Form_init.binds (ps := ["self", "form"]) fun _ _ _ _ _ _ us hl => match us, hl with | [_, _], _ => rfl,
    F_Guess_init := F_Guess_init,
    b_Guess_init := F_Guess_init.binds (ps := ["self", "factors", "shift"]) fun _ _ _ _ _ _ us hl => match us, hl with | [_, _, _], _ => rfl,
    F_Guess_at := F_Guess_at,
    b_Guess_at := F_Guess_at.binds (ps := ["self", "numbers", "place"]) fun _ _ _ _ _ _ us hl => match us, hl with | [_, _, _], _ => rfl,
    e_Guess_at := ⟨a_Guess_at, i_Guess_at, k_Guess_at⟩,
    F_PartTaken_init := F_PartTaken_init,
    b_PartTaken_init := F_PartTaken_init.binds (ps := ["self", "width", "z", "partner"]) fun _ _ _ _ _ _ us hl => match us, hl with | [_, _, _, _], _ => rfl,
    F_PartTaken_take := F_PartTaken_take,
    b_PartTaken_take := F_PartTaken_take.binds (ps := ["self", "number"]) fun _ _ _ _ _ _ us hl => match us, hl with | [_, _], _ => rfl,
    e_PartTaken_take := ⟨a_PartTaken_take, i_PartTaken_take, k_PartTaken_take⟩,
    F_PartTaken_take_rest := F_PartTaken_take_rest,
    b_PartTaken_take_rest := F_PartTaken_take_rest.binds (ps := ["self", "rest"]) fun _ _ _ _ _ _ us hl => match us, hl with | [_, _], _ => rfl,
    e_PartTaken_take_rest := ⟨a_PartTaken_take_rest, i_PartTaken_take_rest, k_PartTaken_take_rest⟩,
    F_Partner_init := F_Partner_init,
    b_Partner_init := F_Partner_init.binds (ps := ["self", "mode", "depth", "numbers"]) fun _ _ _ _ _ _ us hl => match us, hl with | [_, _, _, _], _ => rfl,
    F_Partner_judge := F_Partner_judge,
    b_Partner_judge := F_Partner_judge.binds (ps := ["self", "place", "number"]) fun _ _ _ _ _ _ us hl => match us, hl with | [_, _, _], _ => rfl,
    e_Partner_judge := ⟨a_Partner_judge, i_Partner_judge, k_Partner_judge⟩,
    F_FrameTaken_init := F_FrameTaken_init,
    b_FrameTaken_init := F_FrameTaken_init.binds (ps := ["self", "size", "k", "n", "numbers"]) fun _ _ _ _ _ _ us hl => match us, hl with | [_, _, _, _, _], _ => rfl,
    l_BitReader := ⟨pg_BitReader, hd_BitReader, po_BitReader, sa_BitReader⟩,
    m_BitReader := PySem.W.mg_of X G a_BitReader,
    k_BitReader := ⟨mk_BitReader, a_BitReader_init, i_BitReader_init, kc_BitReader⟩,
    n_BitReader_data := n_BitReader_data,
    n_BitReader_place := n_BitReader_place,
    l_Form := ⟨pg_Form, hd_Form, po_Form, sa_Form⟩,
    m_Form := PySem.W.mg_of X G a_Form,
    k_Form := ⟨mk_Form, a_Form_init, i_Form_init, kc_Form⟩,
    n_Form_channels := n_Form_channels,
    n_Form_depth := n_Form_depth,
    n_Form_block := n_Form_block,
    n_Form_order := n_Form_order,
    n_Form_group := n_Form_group,
    n_Form_spare := n_Form_spare,
    l_Guess := ⟨pg_Guess, hd_Guess, po_Guess, sa_Guess⟩,
    m_Guess := PySem.W.mg_of X G a_Guess,
    k_Guess := ⟨mk_Guess, a_Guess_init, i_Guess_init, kc_Guess⟩,
    n_Guess_factors := n_Guess_factors,
    n_Guess_shift := n_Guess_shift,
    l_PartTaken := ⟨pg_PartTaken, hd_PartTaken, po_PartTaken, sa_PartTaken⟩,
    m_PartTaken := PySem.W.mg_of X G a_PartTaken,
    k_PartTaken := ⟨mk_PartTaken, a_PartTaken_init, i_PartTaken_init, kc_PartTaken⟩,
    n_PartTaken_width := n_PartTaken_width,
    n_PartTaken_z := n_PartTaken_z,
    n_PartTaken_partner := n_PartTaken_partner,
    n_PartTaken_guess := n_PartTaken_guess,
    n_PartTaken_taken := n_PartTaken_taken,
    l_Partner := ⟨pg_Partner, hd_Partner, po_Partner, sa_Partner⟩,
    m_Partner := PySem.W.mg_of X G a_Partner,
    k_Partner := ⟨mk_Partner, a_Partner_init, i_Partner_init, kc_Partner⟩,
    n_Partner_mode := n_Partner_mode,
    n_Partner_depth := n_Partner_depth,
    n_Partner_numbers := n_Partner_numbers,
    l_FrameTaken := ⟨pg_FrameTaken, hd_FrameTaken, po_FrameTaken, sa_FrameTaken⟩,
    m_FrameTaken := PySem.W.mg_of X G a_FrameTaken,
    k_FrameTaken := ⟨mk_FrameTaken, a_FrameTaken_init, i_FrameTaken_init, kc_FrameTaken⟩,
    n_FrameTaken_size := n_FrameTaken_size,
    n_FrameTaken_k := n_FrameTaken_k,
    n_FrameTaken_n := n_FrameTaken_n,
    n_FrameTaken_numbers := n_FrameTaken_numbers,
    m_Short := PySem.W.mg_of X G a_Short,
    x_Short := ⟨x_Short, y_Short⟩,
    m_Wrong := PySem.W.mg_of X G a_Wrong,
    x_Wrong := ⟨x_Wrong, y_Wrong⟩,
    d_Short_Wrong := beq_eq_false_iff_ne.mp d_Short_Wrong,
    g_FACTOR_WIDTH := PySem.W.mg_of X G g_FACTOR_WIDTH,
    g_GREATEST_SPLIT := PySem.W.mg_of X G g_GREATEST_SPLIT,
    g_PLAIN := PySem.W.mg_of X G g_PLAIN,
    g_GREATEST_PLAIN_WIDTH := PySem.W.mg_of X G g_GREATEST_PLAIN_WIDTH,
    g_GREATEST_FOLDED := PySem.W.mg_of X G g_GREATEST_FOLDED,
    g_SAME := PySem.W.mg_of X G g_SAME,
    g_PLAIN_KIND := PySem.W.mg_of X G g_PLAIN_KIND,
    g_FIRST_FIXED := PySem.W.mg_of X G g_FIRST_FIXED,
    g_FIRST_LINEAR := PySem.W.mg_of X G g_FIRST_LINEAR,
    g_LAST_KIND := PySem.W.mg_of X G g_LAST_KIND,
    g_MARK_frames := PySem.W.mg_of X G g_MARK_frames,
    g_LONGEST := PySem.W.mg_of X G g_LONGEST,
    g_RANGES := PySem.W.mg_of X G g_RANGES,
    q_RANGES := fun H => .inr ⟨_, _, _, t_RANGES, rfl, rfl, (by show 6 ≤ sizeLine; decide), .cons rfl (.cons rfl (.cons rfl (.cons rfl (.cons rfl (.cons rfl (.nil))))))⟩,
    q_RANGES_0 := fun H => .inr ⟨_, _, _, t_RANGES_0, rfl, rfl, (by show 2 ≤ sizeLine; decide), .cons ⟨_, rfl⟩ (.cons ⟨_, rfl⟩ (.nil))⟩,
    q_RANGES_1 := fun H => .inr ⟨_, _, _, t_RANGES_1, rfl, rfl, (by show 2 ≤ sizeLine; decide), .cons ⟨_, rfl⟩ (.cons ⟨_, rfl⟩ (.nil))⟩,
    q_RANGES_2 := fun H => .inr ⟨_, _, _, t_RANGES_2, rfl, rfl, (by show 2 ≤ sizeLine; decide), .cons ⟨_, rfl⟩ (.cons ⟨_, rfl⟩ (.nil))⟩,
    q_RANGES_3 := fun H => .inr ⟨_, _, _, t_RANGES_3, rfl, rfl, (by show 2 ≤ sizeLine; decide), .cons ⟨_, rfl⟩ (.cons ⟨_, rfl⟩ (.nil))⟩,
    q_RANGES_4 := fun H => .inr ⟨_, _, _, t_RANGES_4, rfl, rfl, (by show 2 ≤ sizeLine; decide), .cons ⟨_, rfl⟩ (.cons ⟨_, rfl⟩ (.nil))⟩,
    q_RANGES_5 := fun H => .inr ⟨_, _, _, t_RANGES_5, rfl, rfl, (by show 2 ≤ sizeLine; decide), .cons ⟨_, rfl⟩ (.cons ⟨_, rfl⟩ (.nil))⟩,
    g_FIXED := PySem.W.mg_of X G g_FIXED,
    q_FIXED := fun H => .inr ⟨_, _, _, t_FIXED, rfl, rfl, (by show 5 ≤ sizeLine; decide), .cons rfl (.cons rfl (.cons rfl (.cons rfl (.cons rfl (.nil)))))⟩,
    q_FIXED_0 := fun H => .inr ⟨_, _, _, t_FIXED_0, rfl, rfl, (by show 0 ≤ sizeLine; decide), .nil⟩,
    q_FIXED_1 := fun H => .inr ⟨_, _, _, t_FIXED_1, rfl, rfl, (by show 1 ≤ sizeLine; decide), .cons ⟨_, rfl⟩ (.nil)⟩,
    q_FIXED_2 := fun H => .inr ⟨_, _, _, t_FIXED_2, rfl, rfl, (by show 2 ≤ sizeLine; decide), .cons ⟨_, rfl⟩ (.cons ⟨_, rfl⟩ (.nil))⟩,
    q_FIXED_3 := fun H => .inr ⟨_, _, _, t_FIXED_3, rfl, rfl, (by show 3 ≤ sizeLine; decide), .cons ⟨_, rfl⟩ (.cons ⟨_, rfl⟩ (.cons ⟨_, rfl⟩ (.nil)))⟩,
    q_FIXED_4 := fun H => .inr ⟨_, _, _, t_FIXED_4, rfl, rfl, (by show 4 ≤ sizeLine; decide), .cons ⟨_, rfl⟩ (.cons ⟨_, rfl⟩ (.cons ⟨_, rfl⟩ (.cons ⟨_, rfl⟩ (.nil))))⟩,
    z_all := PySem.W.mg_none_of X G z_all,
    z_len := PySem.W.mg_none_of X G z_len,
    z_list := PySem.W.mg_none_of X G z_list,
    z_range := PySem.W.mg_none_of X G z_range,
    z_zip := PySem.W.mg_none_of X G z_zip,
    entry := fun s us hu => match us, hu with | [_, _], _ => .of_eq rfl
  }
end Wg
namespace Wg
open PySem PySem.Spec PyProof.Rows L2
def hide (D : Addr) (H : Hp) : Hp := fun b => if b = D then none else H b
theorem hide_ne {D b : Addr} {H : Hp} (h : b ≠ D) : hide D H b = H b := by unfold hide; rw [if_neg h]
theorem hide_some {D b : Addr} {H : Hp} {o : HO} (h : hide D H b = some o) : H b = some o ∧ b ≠ D := by
  unfold hide at h
  by_cases e : b = D
  · rw [if_pos e] at h; cases h
  · rw [if_neg e] at h; exact ⟨h, e⟩
theorem hide_same (D : Addr) (H : Hp) : Same (hide D H) H := fun b o h => (hide_some h).1
theorem hide_mono {D : Addr} {H H' : Hp} (s : Same H H') : Same (hide D H) (hide D H') := fun b o h => by
  obtain ⟨h1, h2⟩ := hide_some h
  rw [hide_ne h2]; exact s b o h1
theorem hide_upd (D : Addr) (H : Hp) (o : HO) : hide D (upd H D o) = hide D H := by
  funext b
  unfold hide
  by_cases e : b = D
  · rw [if_pos e, if_pos e]
  · rw [if_neg e, if_neg e, upd_ne e]
theorem same_new {H : Hp} {p : Addr} {o : HO} (h : H p = none) : Same H (upd H p o) := fun b u e => by rw [upd_ne (ne_of_none e h)]; exact e
theorem same_keep {H H' : Hp} {p : Addr} {o : HO} (s : Same H H') (h : H p = none) : Same H (upd H' p o) := fun b u e => by rw [upd_ne (ne_of_none e h)]; exact s b u e
theorem lc_rel {J : It} {H1 : Hp} {D : Addr} {σ : L2.St} {vs : List Nat} {g : TG} {te : TE} {Qf : Hp → Prop} (hD : H1 D = none) (n : Nat) (hn : n ≤ sizeLine) (Pr : Nat → V → Hp → Prop)
    (stay : ∀ k v H H', k < n → Same H H' → Pr k v H → Pr k v H')
    (hgo : ∀ i Hh, i < n → Same H1 Hh → J.go i Hh) (hstop : ∀ Hh, Same H1 Hh → J.stop n Hh)
    (turn : ∀ i Hh x H', i < n → Same H1 Hh → (∃ acc, Hh D = some (.lst acc)) → J.yld i Hh x H' → ∀ C : VK, (∀ y H4, Same Hh H4 → Pr i y (hide D H4) → C y H4) → g x (wipe σ vs) H' fun σ2 H2 => wipe σ2 vs = wipe σ vs ∧ te σ2 H2 C)
    (fin : ∀ Hh xs, Same H1 Hh → xs.length = n → (∀ (k : Nat) (v : V), xs[k]? = some v → Pr k v Hh) → Hh D = some (.lst xs) → Qf Hh) :
    ∃ W : Nat → Nat → Hp → Prop, (∃ m, W 0 m (upd H1 D (.lst []))) ∧ ∀ i m H, W i m H →
      (J.stop i H ∧ Qf H) ∨ (J.go i H ∧ ∃ Nx : Hp → Prop, (∀ H', Nx H' → ∃ m', m' < m ∧ W (i + 1) m' H') ∧ ∀ x H', J.yld i H x H' → g x (wipe σ vs) H' fun σ2 H2 => wipe σ2 vs = wipe σ vs ∧ tYes σ2 H2 fun b H3 =>
        if b = true then te σ2 H3 fun y H4 => ∃ acc, H4 D = some (.lst acc) ∧ acc.length < sizeLine ∧ Nx (upd H4 D (.lst (acc ++ [y]))) else Nx H3) := by
  refine ⟨fun i m H => i + m = n ∧ Same H1 H ∧ ∃ xs : List V, xs.length = i ∧ H D = some (.lst xs) ∧ ∀ (k : Nat) (v : V), xs[k]? = some v → Pr k v (hide D H), ⟨n, by omega, same_new hD, [], rfl, upd_same, fun k v e => by simp at e⟩, ?_⟩
  rintro i m H ⟨hm, s1, xs, hl, hx, hp⟩
  by_cases hi : i = n
  · subst hi
    exact .inl ⟨hstop H s1, fin H xs s1 hl (fun k v e => stay k v _ _ (by have := (List.getElem?_eq_some_iff.mp e).1; omega) (hide_same D H) (hp k v e)) hx⟩
  · have hi : i < n := by omega
    refine .inr ⟨hgo i H hi s1, fun H' => ∃ m', m' < m ∧ i + 1 + m' = n ∧ Same H1 H' ∧ ∃ xs : List V, xs.length = i + 1 ∧ H' D = some (.lst xs) ∧ ∀ (k : Nat) (v : V), xs[k]? = some v → Pr k v (hide D H'), fun H' h => ?_, fun x H' hy => ?_⟩
    · obtain ⟨m', h1, h2, h3⟩ := h
      exact ⟨m', h1, h2, h3⟩
    · refine turn i H x H' hi s1 ⟨xs, hx⟩ hy _ fun y H4 s4 p4 => ?_
      refine ⟨xs, s4 _ _ hx, by omega, m - 1, by omega, by omega, same_keep (s1.trans s4) hD, xs ++ [y], by rw [List.length_append, hl]; rfl, upd_same, fun k v e => ?_⟩
      rw [hide_upd]
      by_cases hk : k < xs.length
      · rw [List.getElem?_append_left hk] at e
        exact stay k v _ _ (by omega) (hide_mono s4) (hp k v e)
      · rw [List.getElem?_append_right (by omega)] at e
        have hk0 : k - xs.length = 0 := by
          have := (List.getElem?_eq_some_iff.mp e).1
          simp at this; omega
        rw [hk0] at e
        have e := Option.some.inj e
        subst e
        have : k = i := by omega
        subst this
        exact p4
theorem lc_val {J : It} {H1 : Hp} {D : Addr} {σ : L2.St} {vs : List Nat} {g : TG} {te : TE} {Qf : Hp → Prop} (hD : H1 D = none) (n : Nat) (hn : n ≤ sizeLine) (val : Nat → V)
    (hgo : ∀ i Hh, i < n → Same H1 Hh → J.go i Hh) (hstop : ∀ Hh, Same H1 Hh → J.stop n Hh)
    (turn : ∀ i Hh x H', i < n → Same H1 Hh → J.yld i Hh x H' → ∀ C : VK, (∀ H4, Same Hh H4 → C (val i) H4) → g x (wipe σ vs) H' fun σ2 H2 => wipe σ2 vs = wipe σ vs ∧ te σ2 H2 C)
    (fin : ∀ Hh, Same H1 Hh → Hh D = some (.lst ((List.range n).map val)) → Qf Hh) :
    ∃ W : Nat → Nat → Hp → Prop, (∃ m, W 0 m (upd H1 D (.lst []))) ∧ ∀ i m H, W i m H →
      (J.stop i H ∧ Qf H) ∨ (J.go i H ∧ ∃ Nx : Hp → Prop, (∀ H', Nx H' → ∃ m', m' < m ∧ W (i + 1) m' H') ∧ ∀ x H', J.yld i H x H' → g x (wipe σ vs) H' fun σ2 H2 => wipe σ2 vs = wipe σ vs ∧ tYes σ2 H2 fun b H3 =>
        if b = true then te σ2 H3 fun y H4 => ∃ acc, H4 D = some (.lst acc) ∧ acc.length < sizeLine ∧ Nx (upd H4 D (.lst (acc ++ [y]))) else Nx H3) := by
  refine lc_rel hD n hn (fun k v _ => v = val k) (fun _ _ _ _ _ _ h => h) hgo hstop (fun i Hh x H' hi s1 _ hy C hC => turn i Hh x H' hi s1 hy C fun H4 s4 => hC _ H4 s4 rfl) fun Hh xs s1 hl hp hx => fin Hh s1 ?_
  have : xs = (List.range n).map val := by
    refine List.ext_getElem? fun k => ?_
    by_cases hk : k < n
    · rw [List.getElem?_map, List.getElem?_range hk]
      have e := List.getElem?_eq_getElem (l := xs) (i := k) (by omega)
      rw [e, hp k _ e]; rfl
    · rw [List.getElem?_eq_none (by omega), List.getElem?_eq_none (by rw [List.length_map, List.length_range]; omega)]
  rw [← this]; exact hx
theorem pe_gi {X : Cx} {x : Str} {i : Int} {tk : Tok} {pos : Pos} (hg : Gl X x) (hm : X.mg x = some (.int i tk)) (hd : (x == ("__debug__" : Str)) = false := by decide) : PE X (.Name x pos) (tC (.int i)) := pe_glob hg hm (show RelV (.int i) (.int i tk) from ⟨tk, rfl⟩) hd
theorem pe_gr {X : Cx} {x : Str} {a : Addr} {pos : Pos} (hg : Gl X x) (hm : X.mg x = some (.ref a)) (hd : (x == ("__debug__" : Str)) = false := by decide) : PE X (.Name x pos) (tC (.ref a)) := pe_glob hg hm (show RelV (.ref a) (.ref a) from rfl) hd
theorem ixL {X : Cx} {K : PySem.W.Frag} (h : X.K = K) : IxR X (rIxL K) := by subst h; exact ix_list
theorem pfldK {X : Cx} {K : PySem.W.Frag} {e : Expr} {f : Str} {pos : Pos} {ta : TE} (h : X.K = K) (he : PE X e ta) (hb : attributeBase e f X.env (eval e X.env) = eval e X.env) : PE X (.Attribute e f pos) (tFld K ta f) := by subst h; exact pe_fld he hb
theorem map_int_get {l : List Int} {i : Nat} {x : V} (h : (l.map V.int)[i]? = some x) : x = .int (l.getD i 0) ∧ i < l.length := by
  rw [List.getElem?_map] at h
  cases e : l[i]? with
  | none => rw [e] at h; cases h
  | some z =>
    rw [e] at h
    refine ⟨?_, (List.getElem?_eq_some_iff.mp e).1⟩
    rw [List.getD_eq_getElem?_getD, e]
    exact (Option.some.inj h).symm
theorem int_get {l : List Int} {i : Nat} (h : i < l.length) : (l.map V.int)[i]? = some (.int (l.getD i 0)) := by
  rw [List.getElem?_map, List.getElem?_eq_getElem h, List.getD_eq_getElem?_getD, List.getElem?_eq_getElem h]; rfl
end Wg
namespace Wg
open PySem PySem.Spec PyProof.Rows L2
local macro_rules | `(tactic| walk_at "rd") => `(tactic| simp only [L2.start, tSeq, tNext, tAsg, tRet, tRetN, tOp, tC, tVar, tUn, tCB, tCons, tNil, tCall, tMeth, tFld, sFld, tIf, tIfS, tB, tTest, tNot, tOr, tDrop, tBM, tLst, tTup, tAug, rU, rI, rI0, rIxL, rIxT, rAll, rAppend, gName, gTup, gCons, gNil, tChain, tYes, tNotN, iList, iTup, iRng1, iZip, tSl, tPart, tNoPart, rSlL, rCat, wipe, List.map_cons, List.map_nil, List.length_cons, List.length_nil, List.replicate, List.append_nil, List.nil_append, List.cons_append, List.getElem?_cons_zero, List.getElem?_cons_succ, List.set_cons_zero, List.set_cons_succ, Nat.zero_add, Nat.reduceAdd, Nat.reduceSub, Nat.sub_zero, Nat.sub_self, Option.some.injEq, V.int.injEq, V.ref.injEq, V.bl.injEq, exists_eq_left', exists_eq_left, exists_and_left, exists_and_right, exists_eq', exists_eq, true_and, and_true, List.cons.injEq, reduceCtorEq, false_and, and_false, exists_false, exists_const])
section
variable {P : Program} {w : World} {K : PySem.W.Frag} {mg : Str → Option Value} {base : Heap} {A : Adr}
theorem _root_.L2.Same.none {H H' : Hp} {b : Addr} (s : Same H H') (h : H' b = none) : H b = none := by
  cases q : H b with
  | none => rfl
  | some o => rw [s b o q] at h; cases h
def vN (F : List Nat) : List V := F.map fun (n : Nat) => V.int (n : Int)
theorem vN_len (F : List Nat) : (vN F).length = F.length := by simp [vN]
theorem vN_get {F : List Nat} {i : Nat} (h : i < F.length) : (vN F)[i]? = some (.int ((F.getD i 0 : Nat) : Int)) := by
  unfold vN
  rw [List.getElem?_map, List.getElem?_eq_getElem h, List.getD_eq_getElem?_getD, List.getElem?_eq_getElem h]; rfl
theorem vN_get' {F : List Nat} {i : Nat} {x : V} (h : (vN F)[i]? = some x) : x = .int ((F.getD i 0 : Nat) : Int) ∧ i < F.length := by
  have hi : i < F.length := by
    have := (List.getElem?_eq_some_iff.mp h).1
    rwa [vN_len] at this
  rw [vN_get hi] at h
  exact ⟨(Option.some.inj h).symm, hi⟩
theorem vN_app (F G : List Nat) : vN (F ++ G) = vN F ++ vN G := by unfold vN; rw [List.map_append]
theorem cut_any {α : Type} (l : List α) (a b : Nat) : (l.drop (min a l.length)).take (min b l.length - min a l.length) = (l.drop a).take (b - a) := by
  have e : l.drop (min a l.length) = l.drop a := by
    rw [List.drop_eq_drop_iff]; omega
  rw [e, List.take_eq_take_iff, List.length_drop]; omega
theorem vN_cut (F : List Nat) (a b : Nat) : cutV (vN F) (some (a : Int)) (some (b : Int)) = vN ((F.drop a).take (b - a)) := by
  unfold cutV HT.sIx vN
  simp only [List.length_map]
  rw [if_neg (by omega), if_neg (by omega), Int.toNat_natCast, Int.toNat_natCast, ← List.map_drop, ← List.map_take, cut_any]
theorem vN_to (F : List Nat) (b : Nat) : cutV (vN F) none (some (b : Int)) = vN (F.take b) := by
  unfold cutV HT.sIx vN
  simp only [List.length_map]
  rw [if_neg (by omega), Int.toNat_natCast, ← List.map_drop, ← List.map_take, List.drop_zero, Nat.sub_zero]
  congr 1
  rw [List.take_eq_take_iff]; omega
theorem pow256 (k : Nat) : 256 ^ k = 2 ^ (8 * k) := by rw [Nat.pow_mul]
theorem from_lt : ∀ (l : List Nat), (∀ x ∈ l, x < 256) → ∀ n, l.foldl (fun n c => 256 * n + c) n < (n + 1) * 256 ^ l.length
  | [], _, n => by simp
  | x :: l, h, n => by
    have := from_lt l (fun y hy => h y (List.mem_cons_of_mem _ hy)) (256 * n + x)
    rw [List.foldl_cons, List.length_cons, Nat.pow_succ]
    have hx := h x (List.mem_cons_self ..)
    have h2 : (256 * n + x + 1) * 256 ^ l.length ≤ ((n + 1) * 256) * 256 ^ l.length := Nat.mul_le_mul_right _ (by omega)
    have e : (n + 1) * (256 ^ l.length * 256) = (n + 1) * 256 * 256 ^ l.length := by rw [Nat.mul_comm (256 ^ l.length), Nat.mul_assoc]
    omega
theorem fromN_lt {l : List Nat} (h : ∀ x ∈ l, x < 256) : fromN l < 256 ^ l.length := by
  have := from_lt l h 0
  rwa [Nat.zero_add, Nat.one_mul] at this
theorem take_fold {α β : Type} (f : β → α → β) (l : List α) (i : Nat) (h : i < l.length) (b : β) : (l.take (i + 1)).foldl f b = f ((l.take i).foldl f b) l[i] := by
  rw [List.take_succ, List.getElem?_eq_getElem h, List.foldl_append]; rfl
theorem getD_lt {l : List Nat} {m i : Nat} (h : ∀ x ∈ l, x < m) (hi : i < l.length) : l.getD i 0 < m := h _ (by rw [List.getD_eq_getElem?_getD, List.getElem?_eq_getElem hi]; exact List.getElem_mem hi)
theorem getD_at {l : List Nat} {i : Nat} (hi : i < l.length) : l.getD i 0 = l[i] := by rw [List.getD_eq_getElem?_getD, List.getElem?_eq_getElem hi]; rfl
theorem or_low {n b : Nat} (h : b < 256) : (256 * n) ||| b = 256 * n + b := by
  have := Nat.two_pow_add_eq_or_of_lt (i := 8) h n
  exact this.symm
theorem bits_lt {n k : Nat} (h : n < 2 ^ k) : Builtin.Int.intBits ((n : Nat) : Int) ≤ k := by rw [bl_int]; exact bl_le h
theorem pgtK {X : Cx} {K : PySem.W.Frag} {pos : Pos} {es : List Expr} {k : Nat} {t : TGs} {n : Nat} (h : X.K = K) (hc : X.calm = true) (hg : PGs X es t)
    (hn : (assignEach es X.env).length = n := by rfl) (hst : (assignEach es X.env).findIdx? (·.1) = none := by rfl) : PG X (.Tuple es k pos) (gTup K n t) := by subst h; exact pg_tup hc hg hn hst
theorem lenK {X : Cx} {K : PySem.W.Frag} (h : X.K = K) : CallR X (.builtin "len") (fun xs H Q => ∃ p ys, xs = [.ref p] ∧ (SqL K H p ys ∨ SqT K H p ys) ∧ Q (.int ys.length) H) := by subst h; exact call_len_seq
theorem ref_get' {as : List Addr} {i : Nat} {x : V} (h : (as.map V.ref)[i]? = some x) : ∃ a, x = .ref a ∧ as[i]? = some a := by
  rw [List.getElem?_map] at h
  cases e : as[i]? with
  | none => rw [e] at h; cases h
  | some a => rw [e] at h; exact ⟨a, (Option.some.inj h).symm, rfl⟩
theorem ref_get {as : List Addr} {i : Nat} (h : i < as.length) : ∃ a, (as.map V.ref)[i]? = some (.ref a) ∧ as[i]? = some a := ⟨as[i], by rw [List.getElem?_map, List.getElem?_eq_getElem h]; rfl, List.getElem?_eq_getElem h⟩
def bn (b : Sound.Bytes) : List Nat := b.map UInt8.toNat
theorem bn_len (b : Sound.Bytes) : (bn b).length = b.length := by unfold bn; rw [List.length_map]
theorem bn_lt (b : Sound.Bytes) : ∀ x ∈ bn b, x < 256 := fun x hx => by
  obtain ⟨c, _, rfl⟩ := List.mem_map.mp hx
  exact c.toNat_lt
theorem bn_drop (b : Sound.Bytes) (n : Nat) : (bn b).drop n = bn (b.drop n) := by unfold bn; rw [List.map_drop]
theorem bn_take (b : Sound.Bytes) (n : Nat) : (bn b).take n = bn (b.take n) := by unfold bn; rw [List.map_take]
def muAt (i n : Nat) : L2.St → Hp → Nat := fun σ _ => match σ[i]? with
  | some (some (.int p)) => n - p.toNat
  | _ => 0
theorem while_cps {c : TT} {tb : TS} {D : Ends} {σ : L2.St} {H : Hp} (Pv : L2.St → Hp → Prop) (μ : L2.St → Hp → Nat) (h0 : Pv σ H)
    (hs : ∀ σ H, Pv σ H → ∀ C : Bool → Hp → Prop, (∀ H1, tb { D with nx := fun σ' H' => Pv σ' H' ∧ μ σ' H' < μ σ H, ct := fun σ' H' => Pv σ' H' ∧ μ σ' H' < μ σ H, bk := D.nx } σ H1 → C true H1) → (∀ H1, D.nx σ H1 → C false H1) → c σ H C) : tWhile c tb D σ H := by
  refine ⟨fun m σ H => m = μ σ H ∧ Pv σ H, ⟨_, rfl, h0⟩, ?_⟩
  rintro m σ H ⟨rfl, p⟩
  exact hs σ H p _ (fun H1 h => ⟨_, fun σ' H' ⟨p', l⟩ => ⟨_, l, rfl, p'⟩, h⟩) (fun H1 h => h)
def newOf (H H' : Hp) : Hp := fun b => match H b with
  | none => H' b
  | some _ => none
theorem newOf_at {H H' : Hp} {b : Addr} (h : H b = none) : newOf H H' b = H' b := by unfold newOf; rw [h]
theorem newOf_in {H H' : Hp} {b : Addr} {o : HO} (h : newOf H H' b = some o) : H b = none ∧ H' b = some o := by
  unfold newOf at h
  cases e : H b with
  | none => rw [e] at h; exact ⟨rfl, h⟩
  | some u => rw [e] at h; cases h
def fitsP (w n : Int) : Bool := decide (-(2 ^ (w - 1).toNat) ≤ n) && decide (n < 2 ^ (w - 1).toNat)
def spFits : Sp := fun vs H Q _ => ∃ w n : Int, vs = [.int w, .int n] ∧ (1 ≤ w ∧ w ≤ 25) ∧ Q (.bl (fitsP w n)) H
theorem sc_fits : FnScope ["width", "number", "half"] ["width", "number"] (defScope s_fits) := ⟨rfl, rfl, rfl, by decide +kernel, rfl, by decide +kernel, by decide +kernel⟩
theorem ok_fits (T : Txt K mg A) : FnOk P w K mg base CX0 1 A.f_fits A.d_fits ["width", "number"] spFits := by
  refine T.F_fits.ok sc_fits (fun vs H Q E h => ?_) (fun cdv Ar outer s H vs Q E hr h => ?_)
  · obtain ⟨w, n, rfl, _⟩ := h
    rfl
  · obtain ⟨w, n, rfl, ⟨h1, h2⟩, k⟩ := h
    refine ⟨_, pss_cons (ps_set (i := 2) sc_fits.nd rfl (Or.inl rfl) (pe_op op_shl pe_int (pe_op op_sub (pv 0) pe_int)))
      (pss_one (ps_ret (pe_chain op_le op_lt (pe_un un_neg (pv 2)) (pv 1) (pv 2)))), ?_⟩
    walk_at "rd"
    refine ⟨⟨by omega, by omega, by decide⟩, ?_⟩
    unfold fitsP at k
    rw [Int.one_mul]
    by_cases q : -(2 ^ (w - 1).toNat) ≤ n
    · rw [decide_eq_true q, Bool.true_and] at k
      rw [decide_eq_true q]
      exact iteT k
    · rw [decide_eq_false q, Bool.false_and] at k
      rw [decide_eq_false q]
      exact iteF k
theorem fitsP_eq {W : Nat} (h : 1 ≤ W) (n : Int) : fitsP (W : Int) n = Sound.fits W n := by
  unfold fitsP Sound.fits
  have : ((W : Int) - 1).toNat = W - 1 := by omega
  rw [this]
def spCanSplit : Sp := fun vs H Q _ => ∃ n p r : Nat, vs = [.int n, .int p, .int r] ∧ (n ≤ 1024 ∧ r ≤ 7) ∧ Q (.bl (canSplit n p r)) H
theorem sc_can_split : FnScope ["n", "order", "r", "size"] ["n", "order", "r"] (defScope s_can_split) := ⟨rfl, rfl, rfl, by decide +kernel, rfl, by decide +kernel, by decide +kernel⟩
theorem ok_can_split (T : Txt K mg A) : FnOk P w K mg base CX0 1 A.f_can_split A.d_can_split ["n", "order", "r"] spCanSplit := by
  refine T.F_can_split.ok sc_can_split (fun vs H Q E h => ?_) (fun cdv Ar outer s H vs Q E hr h => ?_)
  · obtain ⟨n, p, r, rfl, _⟩ := h
    rfl
  · obtain ⟨n, p, r, rfl, ⟨hn, hr7⟩, k⟩ := h
    refine ⟨_, pss_cons (ps_set (i := 3) sc_can_split.nd rfl (Or.inl rfl) (pe_op op_shr (pv 0) (pv 2)))
      (pss_one (ps_ret (pe_and (pe_cmpR op_le (pv 2) (pe_gi rfl T.g_GREATEST_SPLIT) (nomark _)) (pe_and (pe_cmpR op_eq (pe_op op_shl (pv 3) (pv 2)) (pv 0) (nomark _)) (pe_one (pe_cmpR op_ge (pv 3) (pv 1) (nomark _))))))), ?_⟩
    walk_at "rd"
    simp only [tAndV, rEq, V.bl.injEq, exists_eq_left', scal, true_and]
    walk_at "rd"
    have e1 : ((n : Int) / 2 ^ (r : Int).toNat) = ((n / 2 ^ r : Nat) : Int) := by
      rw [Int.toNat_natCast]; simp
    rw [e1]
    have hdn : n / 2 ^ r ≤ n := Nat.div_le_self _ _
    refine ⟨by omega, ?_⟩
    unfold canSplit at k
    by_cases q1 : r ≤ 6
    · rw [decide_eq_true q1, Bool.true_and] at k
      rw [decide_eq_true (show (r : Int) ≤ 6 by omega)]
      refine iteT ⟨⟨by omega, by omega, by rw [Int.natAbs_natCast]; exact Nat.lt_of_le_of_lt (Nat.le_trans hdn hn) (by decide)⟩, ?_⟩
      have e2 : ((n / 2 ^ r : Nat) : Int) * 2 ^ (r : Int).toNat = ((n / 2 ^ r * 2 ^ r : Nat) : Int) := by
        rw [Int.toNat_natCast]; simp
      rw [e2]
      by_cases q2 : n / 2 ^ r * 2 ^ r = n
      · rw [decide_eq_true q2, Bool.true_and] at k
        rw [q2]
        refine ⟨rfl, _, rfl, ?_⟩
        rw [decide_eq_true (show V.int (n : Int) = V.int (n : Int) from rfl)]
        refine iteT ?_
        have : decide ((p : Int) ≤ ((n / 2 ^ r : Nat) : Int)) = decide (p ≤ n / 2 ^ r) := by
          rw [Bool.eq_iff_iff, decide_eq_true_eq, decide_eq_true_eq]; omega
        rw [this]; exact k
      · rw [decide_eq_false q2, Bool.false_and] at k
        refine ⟨rfl, _, rfl, ?_⟩
        rw [decide_eq_false (show ¬ V.int ((n / 2 ^ r * 2 ^ r : Nat) : Int) = V.int (n : Int) from fun e => q2 (by have := V.int.inj e; omega))]
        exact iteF k
    · rw [decide_eq_false q1, Bool.false_and] at k
      rw [decide_eq_false (show ¬ (r : Int) ≤ 6 by omega)]
      exact iteF k
def spOrder : Sp := fun vs H Q _ => ∃ k : Nat, vs = [.int k] ∧ (2 ≤ k ∧ k ≤ 10) ∧ Q (.int ((if k ≤ 6 then k - 2 else k - 6 : Nat) : Int)) H
theorem sc_order_of_kind : FnScope ["kind"] ["kind"] (defScope s_order_of_kind) := ⟨rfl, rfl, rfl, by decide +kernel, rfl, by decide +kernel, by decide +kernel⟩
theorem ok_order_of_kind (T : Txt K mg A) : FnOk P w K mg base CX0 1 A.f_order_of_kind A.d_order_of_kind ["kind"] spOrder := by
  refine T.F_order_of_kind.ok sc_order_of_kind (fun vs H Q E h => ?_) (fun cdv Ar outer s H vs Q E hr h => ?_)
  · obtain ⟨e, rfl, _⟩ := h
    rfl
  · obtain ⟨e, rfl, ⟨h1, h2⟩, k⟩ := h
    refine ⟨_, pss_one (ps_ret (pe_ifExp (pt_cmpR op_lt (pv 0) (pe_gi rfl T.g_FIRST_LINEAR) (nomark _)) (pe_op op_sub (pv 0) (pe_gi rfl T.g_FIRST_FIXED)) (pe_op op_add (pe_op op_sub (pv 0) (pe_gi rfl T.g_FIRST_LINEAR)) pe_int))), ?_⟩
    walk_at "rd"
    by_cases q : e ≤ 6
    · rw [decide_eq_true (show (e : Int) < 7 by omega)]
      rw [if_pos q] at k
      have e1 : ((e : Int) - 2) = ((e - 2 : Nat) : Int) := by omega
      refine iteT ?_
      rw [e1]; exact k
    · rw [decide_eq_false (show ¬ (e : Int) < 7 by omega)]
      rw [if_neg q] at k
      have e1 : ((e : Int) - 7 + 1) = ((e - 6 : Nat) : Int) := by omega
      refine iteF ?_
      rw [e1]; exact k
def gf (f h : V) : List (Str × V) := [("factors", f), ("shift", h)]
theorem gf_put (f h : V) : putF "shift" h (putF "factors" f []) = gf f h := by
  show putF "shift" h [(("factors" : Str), f)] = _
  unfold putF
  rw [if_neg (by decide)]
  rfl
theorem gf_f (f h : V) : (gf f h).lookup ("factors" : Str) = some f := rfl
theorem gf_h (f h : V) : (gf f h).lookup ("shift" : Str) = some h := rfl
def IsGuess (K : PySem.W.Frag) (C : Addr) (H : Hp) (x : Addr) (a : List Int) (h : Nat) : Prop := ∃ dx p, H x = some (.ins C dx (gf (.ref p) (.int h))) ∧ SqL K H p (a.map V.int)
theorem IsGuess.same {K : PySem.W.Frag} {C : Addr} {H H' : Hp} {x : Addr} {a : List Int} {h : Nat} (s : Same H H') (g : IsGuess K C H x a h) : IsGuess K C H' x a h := by
  obtain ⟨dx, p, h1, h2⟩ := g
  exact ⟨dx, p, s _ _ h1, s.seq h2⟩
def spGuess (C : Addr) : Sp := fun vs H Q _ => ∃ (p dx : Addr) (f h : V), vs = [.ref p, f, h] ∧ H p = some (.ins C dx []) ∧ Q .non (upd H p (.ins C dx (gf f h)))
theorem sc_Guess_init : FnScope ["self", "factors", "shift"] ["self", "factors", "shift"] (defScope s_Guess_init) := ⟨rfl, rfl, rfl, by decide +kernel, rfl, by decide +kernel, by decide +kernel⟩
theorem ok_Guess_init (T : Txt K mg A) : FnOk P w K mg base CX0 1 A.f_Guess_init A.d_Guess_init ["self", "factors", "shift"] (spGuess A.c_Guess) := by
  refine T.F_Guess_init.ok sc_Guess_init (fun vs H Q E h => ?_) (fun cdv Ar outer s H vs Q E hr h => ?_)
  · obtain ⟨p, dx, f, h, rfl, _⟩ := h
    rfl
  · obtain ⟨p, dx, f, h, rfl, hp, k⟩ := h
    refine ⟨_, pss_cons (ps_fld (pv 0) (pv 1) rfl) (pss_one (ps_fld (pv 0) (pv 2) rfl)), ?_⟩
    refine ⟨_, rfl, _, rfl, p, A.c_Guess, dx, [], rfl, hp, T.l_Guess, T.n_Guess_factors, (by show 0 < 1000; decide), ?_⟩
    refine ⟨_, rfl, _, rfl, p, A.c_Guess, dx, _, rfl, upd_same, T.l_Guess, T.n_Guess_shift, (by show 1 < 1000; decide), ?_⟩
    rw [gf_put, upd_upd]
    exact k
theorem upd_made {H : Hp} {x dx C : Addr} {fs : List (Str × V)} : upd (upd (upd H dx (.own x)) x (.ins C dx [])) x (.ins C dx fs) = upd (upd H dx (.own x)) x (.ins C dx fs) := upd_upd
theorem same_made {H : Hp} {x dx : Addr} {o u : HO} (hx : H x = none) (hd : H dx = none) : Same H (upd (upd H dx o) x u) := fun b v e => by
  rw [upd_ne (ne_of_none e hx), upd_ne (ne_of_none e hd)]; exact e
theorem atTot_take : ∀ (a y : List Int) (i t : Nat), i < a.length → atTot (a.take (i + 1)) y t = atTot (a.take i) y t + a.getD i 0 * y.getD (t - 1 - i) 0
  | [], y, i, t, h => by simp at h
  | f :: fs, y, 0, t, h => by simp [atTot]
  | f :: fs, y, i + 1, t, h => by
    rw [List.take_succ_cons, List.take_succ_cons]
    simp only [atTot]
    rw [atTot_take fs y i (t - 1) (by simpa using h)]
    have e : t - 1 - 1 - i = t - 1 - (i + 1) := by omega
    rw [e, List.getD_cons_succ]
    omega
def spAt (K : PySem.W.Frag) (C : Addr) : Sp := fun vs H Q _ => ∃ (x q : Addr) (a y : List Int) (h t : Nat), vs = [.ref x, .ref q, .int t] ∧ IsGuess K C H x a h ∧ SqL K H q (y.map V.int) ∧ (a.length ≤ t ∧ t ≤ y.length) ∧ Bd 2048 a ∧ Q (.int (atP a h y t)) H
theorem sc_Guess_at : FnScope ["self", "numbers", "place", "total", "before", "factor"] ["self", "numbers", "place"] (defScope s_Guess_at) := ⟨rfl, rfl, rfl, by decide +kernel, rfl, by decide +kernel, by decide +kernel⟩
theorem ok_Guess_at (T : Txt K mg A) : FnOk P w K mg base CX0 1 A.f_Guess_at A.d_Guess_at ["self", "numbers", "place"] (spAt K A.c_Guess) := by
  refine T.F_Guess_at.ok sc_Guess_at (fun vs H Q E h => ?_) (fun cdv Ar outer s H vs Q E hr h => ?_)
  · obtain ⟨x, q, a, y, h, t, rfl, _⟩ := h
    rfl
  · obtain ⟨x, q, a, y, h, t, rfl, ⟨dx, p, hx, hp⟩, hq, ⟨h1, h2⟩, hb, k⟩ := h
    refine ⟨_, pss_cons (ps_set (i := 3) sc_Guess_at.nd rfl (Or.inl rfl) pe_int) (pss_cons (ps_set (i := 4) sc_Guess_at.nd rfl (Or.inl rfl) (pv 2))
      (pss_cons (ps_for PassesOwn.never rfl (pi_list (pe_fld (pv 0) rfl)) (pg_name (i := 5) sc_Guess_at.nd rfl (Or.inl rfl))
        (pss_cons (ps_aug (i := 4) sc_Guess_at.nd rfl (Or.inl rfl) pe_int iop_sub) (pss_one (ps_aug (i := 3) sc_Guess_at.nd rfl (Or.inl rfl) (pe_op op_mul (pv 5) (pe_ix ix_list (pv 1) (pv 4) (fun _ _ => rfl))) iop_add))))
      (pss_one (ps_ret (pe_op op_shr (pv 3) (pe_fld (pv 0) rfl)))))), ?_⟩
    refine ⟨_, rfl, _, rfl, x, A.c_Guess, dx, _, _, rfl, hx, T.l_Guess, T.n_Guess_factors, gf_f _ _, p, rfl, ⟨_, hp⟩, ?_⟩
    refine for_list (K := K) (a := p) (xs := a.map V.int) (fun i σ H' => H' = H ∧ ∃ v : Option V, σ = [some (.ref x), some (.ref q), some (.int t), some (.int (atTot (a.take i) y t)), some (.int ((t : Int) - i)), v])
      ⟨rfl, none, by simp [L2.start, atTot]⟩ (fun i σ H' _ ⟨e, _⟩ => by rw [e]; exact hp) ?_ ?_
    · rintro i y' σ H' hi ⟨rfl, v, rfl⟩
      obtain ⟨rfl, hl⟩ := map_int_get hi
      have hm := hb _ (show a.getD i 0 ∈ a by rw [List.getD_eq_getElem?_getD, List.getElem?_eq_getElem hl]; exact List.getElem_mem hl)
      have e1 : (t : Int) - i - 1 = ((t - 1 - i : Nat) : Int) := by omega
      refine ⟨_, rfl, _, _, rfl, rfl, _, rfl, _, rfl, _, rfl, _, rfl, q, _, _, _, rfl, rfl, hq, at_of e1 (int_get (by omega)), _, _, rfl, rfl, .inl ⟨by omega, by omega⟩, _, _, rfl, rfl, rfl, some (.int (a.getD i 0)), ?_⟩
      rw [atTot_take a y i t hl]
      have e2 : (t : Int) - i - 1 = (t : Int) - ((i + 1 : Nat) : Int) := by omega
      rw [← e2]
      rfl
    · rintro σ H' ⟨rfl, v, rfl⟩
      refine ⟨_, rfl, _, rfl, x, A.c_Guess, dx, _, _, rfl, hx, T.l_Guess, T.n_Guess_shift, gf_h _ _, _, _, rfl, rfl, (by omega), ?_⟩
      rw [List.length_map, List.take_length]
      exact k
def spFixed (K : PySem.W.Frag) (C : Addr) : Sp := fun vs H Q _ => ∃ p : Nat, vs = [.int p] ∧ p ≤ 4 ∧ ∀ x H', H x = none → Same H H' → IsGuess K C (newOf H H') x (Sound.FIXED.getD p []) 0 → Q (.ref x) H'
theorem sc_fixed_guess : FnScope ["order"] ["order"] (defScope s_fixed_guess) := ⟨rfl, rfl, rfl, by decide +kernel, rfl, by decide +kernel, by decide +kernel⟩
theorem fixed_at (T : Txt K mg A) {p : Nat} (h : p ≤ 4) (H : Hp) : ∃ b, atI [V.ref A.a_FIXED_0, V.ref A.a_FIXED_1, V.ref A.a_FIXED_2, V.ref A.a_FIXED_3, V.ref A.a_FIXED_4] (p : Int) = some (V.ref b) ∧ SqT K H b ((Sound.FIXED.getD p []).map V.int) := by
  rcases (by omega : p = 0 ∨ p = 1 ∨ p = 2 ∨ p = 3 ∨ p = 4) with rfl | rfl | rfl | rfl | rfl
  · exact ⟨_, atI_nat rfl, T.q_FIXED_0 H⟩
  · exact ⟨_, atI_nat rfl, T.q_FIXED_1 H⟩
  · exact ⟨_, atI_nat rfl, T.q_FIXED_2 H⟩
  · exact ⟨_, atI_nat rfl, T.q_FIXED_3 H⟩
  · exact ⟨_, atI_nat rfl, T.q_FIXED_4 H⟩
theorem ok_fixed_guess (T : Txt K mg A) : FnOk P w K mg base CX0 3 A.f_fixed_guess A.d_fixed_guess ["order"] (spFixed K A.c_Guess) := by
  refine T.F_fixed_guess.ok sc_fixed_guess (fun vs H Q E h => ?_) (fun cdv Ar outer s H vs Q E hr h => ?_)
  · obtain ⟨p, rfl, _⟩ := h
    rfl
  · obtain ⟨p, rfl, hp, k⟩ := h
    refine ⟨_, pss_one (ps_ret (pe_make T.k_Guess (ok_Guess_init T) hr rfl T.m_Guess T.b_Guess_init .nil pass0
      (pa_cons (pe_callTy call_list_of rfl T.z_list (by decide +kernel : bootBuiltins "list" = some (.type "list")) (pa_cons (pe_ix ix_tup (pe_gr rfl T.g_FIXED) (pv 0) (fun _ _ => rfl)) pa_nil)) (pa_cons pe_int pa_nil)))), ?_⟩
    obtain ⟨b, hb, hT⟩ := fixed_at T hp H
    refine ⟨_, rfl, A.a_FIXED, _, _, _, rfl, rfl, T.q_FIXED H, hb, b, _, rfl, .inr hT, fun l hl => ?_⟩
    intro x dx hx hdx hne
    refine ⟨x, dx, _, _, rfl, upd_same, rfl, ?_⟩
    rw [upd_made]
    have hx0 : H x = none := by
      cases e : H x with
      | none => rfl
      | some o => rw [same_new hl _ _ e] at hx; cases hx
    refine k x _ hx0 ((same_new hl).trans (same_made hx hdx)) ⟨dx, l, (newOf_at hx0).trans upd_same, SqL.of ((newOf_at hl).trans ?_)⟩
    exact same_made hx hdx _ _ upd_same
def spCrc (K : PySem.W.Frag) : Sp := fun vs H Q _ => ∃ (q : Addr) (l : List Nat), vs = [.ref q] ∧ SqL K H q (vN l) ∧ (∀ x ∈ l, x < 256) ∧ Q (.int (crcP l : Nat)) H
theorem sc_crc16 : FnScope ["data", "check", "byte", "step"] ["data"] (defScope s_crc16) := ⟨rfl, rfl, rfl, by decide +kernel, rfl, by decide +kernel, by decide +kernel⟩
def itP : Nat → Nat → Nat
  | 0, c => c
  | j + 1, c => crcStepP (itP j c)
theorem crcStepP_lt {p : Nat} (h : p < 65536) : crcStepP p < 65536 := by
  unfold crcStepP
  split
  · rename_i hc
    rw [show (69665 : Nat) = 65536 ^^^ 4129 by decide, ← Nat.xor_assoc, flip16 (by omega) (by omega)]
    exact xor_lt16 (Nat.mod_lt _ (by decide)) (by decide)
  · omega
theorem itP_lt {c : Nat} (h : c < 65536) : ∀ j, itP j c < 65536
  | 0 => h
  | j + 1 => crcStepP_lt (itP_lt h j)
theorem itP_byte (c b : Nat) : itP 8 (c ^^^ (b * 256)) = crcByteP c b := by
  unfold crcByteP
  rw [show List.range 8 = [0, 1, 2, 3, 4, 5, 6, 7] from rfl]
  simp only [List.foldl_cons, List.foldl_nil, itP]
theorem ok_crc16 (T : Txt K mg A) : FnOk P w K mg base CX0 1 A.f_crc16 A.d_crc16 ["data"] (spCrc K) := by
  refine T.F_crc16.ok sc_crc16 (fun vs H Q E h => ?_) (fun cdv Ar outer s H vs Q E hr h => ?_)
  · obtain ⟨q, l, rfl, _⟩ := h
    rfl
  · obtain ⟨q, l, rfl, hq, hb, k⟩ := h
    refine ⟨_, pss_cons (ps_set (i := 1) sc_crc16.nd rfl (Or.inl rfl) pe_int)
      (pss_cons (ps_for PassesOwn.never rfl (pi_list (pv 0)) (pg_name (i := 2) sc_crc16.nd rfl (Or.inl rfl))
        (pss_cons (ps_aug (i := 1) sc_crc16.nd rfl (Or.inl rfl) (pe_op op_shl (pv 2) pe_int) iop_xor)
        (pss_one (ps_for PassesOwn.never rfl (pi_range1 rfl T.z_range (pa_cons pe_int pa_nil)) (pg_name (i := 3) sc_crc16.nd rfl (Or.inl rfl))
          (pss_cons (ps_aug (i := 1) sc_crc16.nd rfl (Or.inl rfl) pe_int iop_shl)
          (pss_one (ps_if (pt_cmpR op_gt (pv 1) pe_int (nomark _)) (pss_one (ps_aug (i := 1) sc_crc16.nd rfl (Or.inl rfl) pe_int iop_xor)) pss_nil)))))))
      (pss_one (ps_ret (pv 1)))), ?_⟩
    refine ⟨_, rfl, q, rfl, ⟨_, hq⟩, ?_⟩
    refine for_list (K := K) (a := q) (xs := vN l) (fun i σ H' => H' = H ∧ (l.take i).foldl crcByteP 65535 < 65536 ∧ ∃ v2 v3 : Option V, σ = [some (.ref q), some (.int ((l.take i).foldl crcByteP 65535 : Nat)), v2, v3]) ⟨rfl, (by rw [List.take_zero, List.foldl_nil]; decide), none, none, (by rw [List.take_zero, List.foldl_nil]; rfl)⟩ (fun i σ H' _ ⟨e, _⟩ => by rw [e]; exact hq) ?_ ?_
    · rintro i x σ H' hi ⟨rfl, hlt, v2, v3, rfl⟩
      obtain ⟨rfl, hil⟩ := vN_get' hi
      generalize hc : (l.take i).foldl crcByteP 65535 = c at *
      have hbl : l.getD i 0 < 256 := hb _ (by rw [List.getD_eq_getElem?_getD, List.getElem?_eq_getElem hil]; exact List.getElem_mem hil)
      have enext : (l.take (i + 1)).foldl crcByteP 65535 = crcByteP c (l.getD i 0) := by
        rw [List.take_succ, List.getElem?_eq_getElem hil, List.foldl_append, hc, List.getD_eq_getElem?_getD, List.getElem?_eq_getElem hil]
        simp only [Option.toList_some, List.foldl_cons, List.foldl_nil, Option.getD_some]
      have hnlt : crcByteP c (l.getD i 0) < 65536 := (byteP hlt hbl).2
      refine ⟨_, rfl, _, rfl, _, _, rfl, rfl, ⟨by decide, by decide, by rw [Int.natAbs_natCast]; omega⟩, _, _, rfl, rfl, ?_⟩
      have ex : Builtin.bitXor ((c : Nat) : Int) (((l.getD i 0 : Nat) : Int) * 2 ^ (8 : Int).toNat) = ((c ^^^ (l.getD i 0 * 256) : Nat) : Int) := by
        rw [← bitXor_nat]
        congr 1
      dsimp only
      rw [ex]
      have hstart : c ^^^ (l.getD i 0 * 256) < 65536 := xor_lt16 hlt (by omega)
      refine ⟨_, rfl, by decide, by decide, ?_⟩
      refine for_range (lo := 0) (n := 8) (fun j σ Hj => Hj = H' ∧ ∃ v3 : Option V, σ = [some (.ref q), some (.int (itP j (c ^^^ (l.getD i 0 * 256)) : Nat)), some (.int (l.getD i 0 : Nat)), v3]) ⟨rfl, v3, rfl⟩ ?_ ?_
      · rintro j σ H' hj ⟨rfl, v3, rfl⟩
        have hjl := itP_lt hstart j
        generalize hp : itP j (c ^^^ (l.getD i 0 * 256)) = p at *
        have hnx : itP (j + 1) (c ^^^ (l.getD i 0 * 256)) = crcStepP p := by rw [itP, hp]
        rw [Int.zero_add]
        refine ⟨_, rfl, _, _, rfl, rfl, ⟨by decide, by decide, by rw [Int.natAbs_natCast]; omega⟩, ?_⟩
        have e2 : ((p : Nat) : Int) * 2 ^ (1 : Int).toNat = ((2 * p : Nat) : Int) := by
          rw [show (2 : Int) ^ (1 : Int).toNat = 2 by decide]; omega
        dsimp only
        rw [e2]
        refine ⟨_, rfl, _, _, rfl, rfl, _, rfl, ?_⟩
        refine ite2 (fun hc2 => ?_) fun hc2 => ?_
        · have hc2 : (65535 : Int) < ((2 * p : Nat) : Int) := of_decide_eq_true hc2
          refine ⟨_, rfl, _, _, rfl, rfl, rfl, some (.int (j : Nat)), ?_⟩
          rw [hnx]
          unfold crcStepP
          rw [if_pos (by omega)]
          have := bitXor_nat (2 * p) 69665
          show [some (V.ref q), some (V.int (Builtin.bitXor ((2 * p : Nat) : Int) 69665)), some (V.int (l.getD i 0 : Nat)), some (V.int (j : Nat))] = _
          rw [show (69665 : Int) = ((69665 : Nat) : Int) from rfl, this]
        · have hc2 : ¬ (65535 : Int) < ((2 * p : Nat) : Int) := fun z => hc2 (decide_eq_true z)
          refine ⟨rfl, some (.int (j : Nat)), ?_⟩
          rw [hnx]
          unfold crcStepP
          rw [if_neg (by omega)]
          rfl
      · rintro σ H' ⟨rfl, v3, rfl⟩
        refine ⟨rfl, ?_, some (.int (l.getD i 0 : Nat)), v3, ?_⟩
        · rw [enext]; exact hnlt
        · rw [enext, itP_byte]
    · rintro σ H' ⟨rfl, _, v2, v3, rfl⟩
      rw [vN_len, List.take_length]
      exact ⟨_, rfl, k⟩
def RLo : List Nat := [1, 4, 16, 0, 1, 0]
def RHi : List Nat := [4, 24, 256, 4, 8, 4]
def rgOk (i z : Nat) : Bool := decide (((RLo.getD i 0 : Nat) : Int) ≤ (z : Nat)) && decide ((z : Int) ≤ (RHi.getD i 0 : Nat))
theorem rng_at (T : Txt K mg A) {i : Nat} (hi : i < 6) : ∃ b, ([V.ref A.a_RANGES_0, V.ref A.a_RANGES_1, V.ref A.a_RANGES_2, V.ref A.a_RANGES_3, V.ref A.a_RANGES_4, V.ref A.a_RANGES_5] : List V)[i]? = some (.ref b) ∧ ∀ H, SqT K H b [V.int ((RLo.getD i 0 : Nat) : Int), V.int ((RHi.getD i 0 : Nat) : Int)] := by
  rcases (by omega : i = 0 ∨ i = 1 ∨ i = 2 ∨ i = 3 ∨ i = 4 ∨ i = 5) with rfl | rfl | rfl | rfl | rfl | rfl
  · exact ⟨_, rfl, T.q_RANGES_0⟩
  · exact ⟨_, rfl, T.q_RANGES_1⟩
  · exact ⟨_, rfl, T.q_RANGES_2⟩
  · exact ⟨_, rfl, T.q_RANGES_3⟩
  · exact ⟨_, rfl, T.q_RANGES_4⟩
  · exact ⟨_, rfl, T.q_RANGES_5⟩
theorem form_none {fm : List Nat} (h : ¬ fm.length = 6) : (Sound.formOf fm).isSome = false := by
  unfold Sound.formOf
  split
  · exact absurd rfl h
  · rfl
theorem form_all {fm : List Nat} (h : fm.length = 6) : ((List.range 6).map fun i => rgOk i (fm.getD i 0)).all id = (Sound.formOf fm).isSome := by
  match fm, h with
  | [c, d, b, o, g, p], _ =>
    rw [show List.range 6 = [0, 1, 2, 3, 4, 5] from rfl]
    have e : (Sound.formOf [c, d, b, o, g, p]).isSome = (Sound.Form.mk c d b o g p).ok := by
      unfold Sound.formOf
      simp only
      cases (Sound.Form.mk c d b o g p).ok <;> rfl
    rw [e, Bool.eq_iff_iff]
    unfold Sound.Form.ok
    simp only [List.map_cons, List.map_nil, List.all_cons, List.all_nil, rgOk, RLo, RHi, List.getD_cons_zero, List.getD_cons_succ, id, Bool.and_eq_true, decide_eq_true_eq, and_true]
    omega
def spIsForm (K : PySem.W.Frag) : Sp := fun vs H Q _ => ∃ (q : Addr) (fm : List Nat), vs = [.ref q] ∧ SqL K H q (vN fm) ∧ ∀ H', Same H H' → Q (.bl (Sound.formOf fm).isSome) H'
theorem sc_is_form : FnScope ["form", "number", "bounds"] ["form"] (defScope s_is_form) := ⟨rfl, rfl, rfl, by decide +kernel, rfl, by decide +kernel, by decide +kernel⟩
theorem ok_is_form (T : Txt K mg A) : FnOk P w K mg base CX0 1 A.f_is_form A.d_is_form ["form"] (spIsForm K) := by
  refine T.F_is_form.ok sc_is_form (fun vs H Q E h => ?_) (fun cdv Ar outer s H vs Q E hr h => ?_)
  · obtain ⟨q, fm, rfl, _⟩ := h
    rfl
  · obtain ⟨q, fm, rfl, hq, k⟩ := h
    refine ⟨_, pss_cons (ps_if (pt_cmpR op_ne (pe_callB call_len_seq (by rfl) T.z_len PySem.boot_len (pa_cons (pv 0) pa_nil)) (pe_callB call_len_seq (by rfl) T.z_len PySem.boot_len (pa_cons (pe_gr rfl T.g_RANGES) pa_nil)) (nomark _)) (pss_one (ps_ret pe_bl)) pss_nil)
      (pss_one (ps_ret (pe_callB (cr_all rfl) rfl T.z_all (by decide +kernel : bootBuiltins "all" = some (.builtin "all")) (pa_cons (pe_lc (own := [("number", 1), ("bounds", 2)]) rfl sc_is_form.nd (pi_zipT rfl T.z_zip (pa_cons (pv 0) (pa_cons (pe_gr rfl T.g_RANGES) pa_nil))) (blkOk_by (by kernel_rfl))
        (fun _ _ _ _ _ => pgtK (K := K) (n := 2) rfl rfl (pgs_cons (pg_name (i := 1) sc_is_form.nd rfl (Or.inl rfl)) (pgs_cons (pg_name (i := 2) sc_is_form.nd rfl (Or.inl rfl)) pgs_nil))) (fun _ _ _ _ _ => pts_nil)
        (fun _ _ _ _ _ => pe_chain op_le op_le (pe_ix (ixT (K := K) rfl) (pv 2) pe_int (fun _ _ => rfl)) (pv 1) (pe_ix (ixT (K := K) rfl) (pv 2) pe_int (fun _ _ => rfl)))) pa_nil)))), ?_⟩
    refine ⟨_, rfl, q, _, rfl, .inl hq, A.a_RANGES, _, rfl, .inr (T.q_RANGES _), rfl, _, rfl, ?_⟩
    refine ite2 (fun hne => ?_) fun hne => ?_
    · have h6 : ¬ fm.length = 6 := fun e => by
        have hl : (vN fm).length = 6 := by rw [vN_len, e]
        rw [hl] at hne
        exact absurd hne (show ¬ ((!decide (V.int ((6 : Nat) : Int) = V.int ((6 : Nat) : Int))) = true) by decide)
      have := k H (Same.refl _)
      rw [form_none h6] at this
      exact this
    · have h6 : fm.length = 6 := by
        by_cases e : fm.length = 6
        · exact e
        · exfalso
          apply hne
          rw [Bool.not_eq_true', decide_eq_false_iff_not]
          intro z
          have z := V.int.inj z
          rw [vN_len] at z
          have z : ((fm.length : Nat) : Int) = ((6 : Nat) : Int) := z
          omega
      refine ⟨_, rfl, q, A.a_RANGES, _, _, rfl, hq, T.q_RANGES _, fun D hD => ?_⟩
      refine lc_val (J := Itzt K q A.a_RANGES) hD 6 (by rw [sizeLine_eq]; omega) (fun i => .bl (rgOk i (fm.getD i 0)))
        (fun i Hh hi s1 => by
          obtain ⟨b, hb1, _⟩ := rng_at T hi
          exact ⟨_, _, _, _, s1.seq hq, T.q_RANGES _, vN_get (by omega), hb1⟩) (fun Hh s1 => ⟨_, _, s1.seq hq, T.q_RANGES _, .inl (by rw [vN_len]; omega)⟩) ?_ ?_
      · rintro i Hh z H' hi s1 ⟨t, x1, y1, rfl, ht, rfl, hx, hy⟩ C hC
        obtain ⟨rfl, _⟩ := vN_get' (hx _ (s1.seq hq))
        obtain ⟨b, hb1, hb2⟩ := rng_at T hi
        have e := hy _ (T.q_RANGES _)
        rw [hb1] at e
        cases e
        have st : Same Hh (upd Hh t (.tup [V.int ((fm.getD i 0 : Nat) : Int), V.ref b])) := same_new ht
        refine ⟨t, _, rfl, SqT.of upd_same, rfl, _, _, rfl, _, _, rfl, rfl, rfl, ?_⟩
        refine ⟨_, rfl, b, _, _, _, rfl, rfl, hb2 _, atI_nat (j := 0) rfl, _, rfl, _, _, rfl, rfl, _, rfl, ?_⟩
        have hC := hC _ st
        unfold rgOk at hC
        by_cases c1 : ((RLo.getD i 0 : Nat) : Int) ≤ ((fm.getD i 0 : Nat) : Int)
        · rw [decide_eq_true c1, Bool.true_and] at hC
          rw [decide_eq_true c1]
          exact iteT ⟨_, rfl, b, _, _, _, rfl, rfl, hb2 _, atI_nat (j := 1) rfl, _, _, rfl, rfl, hC⟩
        · rw [decide_eq_false c1, Bool.false_and] at hC
          rw [decide_eq_false c1]
          exact iteF hC
      · intro Hh s1 hx
        refine ⟨D, (List.range 6).map fun i => rgOk i (fm.getD i 0), rfl, SqL.of (hx.trans ?_), ?_⟩
        · rw [List.map_map]; rfl
        · rw [form_all h6]
          exact k _ s1
def hid (S : List Addr) (H : Hp) : Hp := fun b => if b ∈ S then none else H b
theorem hid_same (S : List Addr) (H : Hp) : Same (hid S H) H := fun b o h => by
  unfold hid at h
  split at h
  · cases h
  · exact h
theorem _root_.L2.Same.hid {S : List Addr} {H0 H : Hp} (s : Same H0 H) (h : ∀ b ∈ S, H0 b = none) : Same H0 (hid S H) := fun b o e => by
  unfold Wg.hid
  rw [if_neg (fun z => by rw [h b z] at e; cases e)]
  exact s b o e
theorem hid_in {S : List Addr} {H : Hp} {b : Addr} (h : b ∈ S) : hid S H b = none := by unfold hid; rw [if_pos h]
theorem hid_out {S : List Addr} {H : Hp} {b : Addr} (h : b ∉ S) : hid S H b = H b := by unfold hid; rw [if_neg h]
structure Rdr where
  r : Addr
  dr : Addr
  q : Addr
  B : Sound.Bytes
def brf (d p : V) : List (Str × V) := [("data", d), ("place", p)]
theorem brf_put (d p : V) : putF "place" p (putF "data" d []) = brf d p := by
  show putF "place" p [(("data" : Str), d)] = _
  unfold putF
  rw [if_neg (by decide)]
  rfl
theorem brf_set (d p p' : V) : putF "place" p' (brf d p) = brf d p' := by
  have n1 : ¬ ("data" : Str) = "place" := by decide
  simp only [brf, putF, if_neg n1]; rfl
def RdI (K : PySem.W.Frag) (H0 : Hp) (R : Rdr) : Prop := SqL K H0 R.q (vN (bn R.B)) ∧ H0 R.r = none ∧ R.B.length ≤ 4096
def RdS (C : Addr) (H : Hp) (R : Rdr) (l : Sound.Bits) : Prop := ∃ p, l = (Sound.bitsOf R.B).drop p ∧ p ≤ 8 * R.B.length ∧ H R.r = some (.ins C R.dr (brf (.ref R.q) (.int (p : Nat))))
theorem RdI.same {H0 H1 : Hp} {R : Rdr} (h : RdI K H0 R) (s : Same H0 H1) (n : H1 R.r = none) : RdI K H1 R := ⟨s.seq h.1, n, h.2.2⟩
def GotQ (A : Adr) (H0 : Hp) (R : Rdr) {α : Type} (g : Sound.Got α) (Q : α → Hp → Prop) (E : XK) : Prop := match g with
  | .ok x l => ∀ H', Same H0 H' → RdS A.c_BitReader H' R l → Q x H'
  | .bad => ∀ H', Same H0 H' → E (.ref A.c_Wrong) none H'
  | .short => ∀ H', Same H0 H' → E (.ref A.c_Short) none H'
theorem GotQ.seq {H0 : Hp} {R : Rdr} {α β : Type} {g : Sound.Got α} {f : α → Sound.Bits → Sound.Got β} {Q : β → Hp → Prop} {Q' : α → Hp → Prop} {E : XK} (h : GotQ A H0 R (g.then_ f) Q E)
    (k : ∀ x l H', g = .ok x l → Same H0 H' → RdS A.c_BitReader H' R l → GotQ A H0 R (f x l) Q E → Q' x H') : GotQ A H0 R g Q' E := by
  cases g with
  | ok x l => exact fun H' s st => k x l H' rfl s st h
  | bad => exact h
  | short => exact h
theorem GotQ.seqL {H0 H1 : Hp} {R : Rdr} {α β : Type} {g : Sound.Got α} {f : α → Sound.Bits → Sound.Got β} {Q : β → Hp → Prop} {Q' : α → Hp → Prop} {E : XK} (h : GotQ A H0 R (g.then_ f) Q E) (s : Same H0 H1)
    (k : ∀ x l H', g = .ok x l → Same H1 H' → RdS A.c_BitReader H' R l → GotQ A H0 R (f x l) Q E → Q' x H') : GotQ A H1 R g Q' E := by
  cases g with
  | ok x l => exact fun H' s' st => k x l H' rfl s' st h
  | bad => exact fun H' s' => h H' (s.trans s')
  | short => exact fun H' s' => h H' (s.trans s')
theorem GotQ.low {H0 H1 : Hp} {R : Rdr} {α : Type} {g : Sound.Got α} {Q : α → Hp → Prop} {E : XK} (h : GotQ A H0 R g Q E) (s : Same H0 H1) : GotQ A H1 R g Q E := by
  cases g with
  | ok x l => exact fun H' s' st => h H' (s.trans s') st
  | bad => exact fun H' s' => h H' (s.trans s')
  | short => exact fun H' s' => h H' (s.trans s')
def spBR (C : Addr) : Sp := fun vs H Q _ => ∃ (p dx : Addr) (d : V), vs = [.ref p, d] ∧ H p = some (.ins C dx []) ∧ Q .non (upd H p (.ins C dx (brf d (.int 0))))
theorem sc_BitReader_init : FnScope ["self", "data"] ["self", "data"] (defScope s_BitReader_init) := ⟨rfl, rfl, rfl, by decide +kernel, rfl, by decide +kernel, by decide +kernel⟩
theorem ok_BitReader_init (T : Txt K mg A) : FnOk P w K mg base CX0 1 A.f_BitReader_init A.d_BitReader_init ["self", "data"] (spBR A.c_BitReader) := by
  refine T.F_BitReader_init.ok sc_BitReader_init (fun vs H Q E h => ?_) (fun cdv Ar outer s H vs Q E hr h => ?_)
  · obtain ⟨p, dx, d, rfl, _⟩ := h
    rfl
  · obtain ⟨p, dx, d, rfl, hp, k⟩ := h
    refine ⟨_, pss_cons (ps_fld (pv 0) (pv 1) rfl) (pss_one (ps_fld (pv 0) pe_int rfl)), ?_⟩
    refine ⟨_, rfl, _, rfl, p, A.c_BitReader, dx, [], rfl, hp, T.l_BitReader, T.n_BitReader_data, (by show 0 < 1000; decide), ?_⟩
    refine ⟨_, rfl, p, A.c_BitReader, dx, _, rfl, upd_same, T.l_BitReader, T.n_BitReader_place, (by show 1 < 1000; decide), ?_⟩
    rw [brf_put, upd_upd]
    exact k
def spUns (K : PySem.W.Frag) (A : Adr) : Sp := fun vs H Q E => ∃ (H0 : Hp) (R : Rdr) (n : Nat) (l : Sound.Bits), vs = [.ref R.r, .int n] ∧ Same H0 H ∧ RdI K H0 R ∧ RdS A.c_BitReader H R l ∧ n ≤ 64 ∧ GotQ A H0 R (Sound.takeU n l) (fun x H' => Q (.int (x : Nat)) H') E
theorem sc_BitReader_unsigned : FnScope ["self", "width", "behind", "number", "byte"] ["self", "width"] (defScope s_BitReader_unsigned) := ⟨rfl, rfl, rfl, by decide +kernel, rfl, by decide +kernel, by decide +kernel⟩
theorem neg_mod8 (n : Nat) : (-(n : Int)) % 8 = ((8 * ((n + 7) / 8) - n : Nat) : Int) := by omega
theorem ok_BitReader_unsigned (T : Txt K mg A) : FnOk P w K mg base (CX1 P w) 1 A.f_BitReader_unsigned A.d_BitReader_unsigned ["self", "width"] (spUns K A) := by
  refine T.F_BitReader_unsigned.okE sc_BitReader_unsigned (fun vs H Q E h => ?_) (fun cdv Ar outer s H vs Q E hr h => ?_)
  · obtain ⟨H0, R, n, l, rfl, _⟩ := h
    rfl
  · obtain ⟨H0, R, n, l, rfl, s0, ⟨hq, hn0, hB⟩, ⟨p, rfl, hp, hx⟩, hn, k⟩ := h
    refine ⟨_, pss_cons (ps_set (i := 2) sc_BitReader_unsigned.nd rfl (Or.inl rfl) (pe_op op_add (pe_fld (pv 0) rfl) (pv 1)))
      (pss_cons (ps_if (pt_cmpR op_gt (pv 2) (pe_op op_mul pe_int (pe_callB call_len_seq (by rfl) T.z_len PySem.boot_len (pa_cons (pe_fld (pv 0) rfl) pa_nil))) (nomark _)) (pss_one (ps_raise rfl rfl T.m_Short T.x_Short.exc raise1)) pss_nil)
      (pss_cons (ps_set (i := 3) sc_BitReader_unsigned.nd rfl (Or.inl rfl) pe_int)
      (pss_cons (ps_for PassesOwn.leaving rfl (pi_list (pe_slice sl_list (pe_fld (pv 0) rfl) (po_some (pe_op op_fdiv (pe_fld (pv 0) rfl) pe_int)) (po_some (pe_op op_fdiv (pe_op op_add (pv 2) pe_int) pe_int)))) (pg_name (i := 4) sc_BitReader_unsigned.nd rfl (Or.inl rfl))
        (pss_one (ps_set (i := 3) sc_BitReader_unsigned.nd rfl (Or.inl rfl) (pe_op op_or (pe_op op_shlB (pv 3) pe_int) (pv 4)))))
      (pss_cons (ps_fld (pv 0) (pv 2) rfl)
      (pss_one (ps_ret (pe_op op_and (pe_op op_shr (pv 3) (pe_op op_mod (pe_un un_neg (pv 2)) pe_int)) (pe_op op_sub (pe_op op_shlB pe_int (pv 1)) pe_int)))))))), ?_⟩
    have hqH := s0.seq hq
    refine ⟨_, rfl, R.r, A.c_BitReader, R.dr, _, _, rfl, hx, T.l_BitReader, T.n_BitReader_place, rfl, _, rfl, _, _, rfl, rfl, ?_⟩
    dsimp only
    rw [show ((p : Nat) : Int) + ((n : Nat) : Int) = ((p + n : Nat) : Int) by omega]
    refine ⟨_, rfl, _, rfl, R.r, A.c_BitReader, R.dr, _, _, rfl, hx, T.l_BitReader, T.n_BitReader_data, rfl, R.q, _, rfl, .inl hqH, _, _, rfl, rfl, .inl ⟨by decide, by decide⟩, _, _, rfl, rfl, _, rfl, ?_⟩
    rw [vN_len, bn_len]
    have hlen : ((Sound.bitsOf R.B).drop p).length = 8 * R.B.length - p := by rw [List.length_drop, bitsOf_len]
    unfold Sound.takeU at k
    refine ite2 (fun hc => ?_) fun hc => ?_
    · have hc : (8 : Int) * ((R.B.length : Nat) : Int) < ((p + n : Nat) : Int) := of_decide_eq_true hc
      rw [if_pos ((lacks_iff _ _).mpr (by rw [hlen]; omega))] at k
      exact k H s0
    · have hc : ¬ (8 : Int) * ((R.B.length : Nat) : Int) < ((p + n : Nat) : Int) := fun z => hc (decide_eq_true z)
      rw [if_neg (fun z => by have := (lacks_iff _ _).mp z; rw [hlen] at this; omega)] at k
      refine ⟨_, rfl, R.r, A.c_BitReader, R.dr, _, _, rfl, hx, T.l_BitReader, T.n_BitReader_data, rfl, _, rfl, R.r, A.c_BitReader, R.dr, _, _, rfl, hx, T.l_BitReader, T.n_BitReader_place, rfl, _, _, rfl, rfl, ⟨by decide, by decide⟩, _, rfl, _, rfl, _, _, rfl, rfl, _, _, rfl, rfl, ⟨by decide, by decide⟩, _, rfl, R.q, _, rfl, hqH, fun D hD => ?_⟩
      have e1 : ((p : Nat) : Int) / 8 = ((p / 8 : Nat) : Int) := by omega
      have e2 : (((p + n : Nat) : Int) + 7) / 8 = (((p + n + 7) / 8 : Nat) : Int) := by omega
      rw [e1, e2, vN_cut, bn_drop, bn_take]
      have hv := read_u (B := R.B) (p := p) (n := n) (by omega)
      generalize hbs : (R.B.drop (p / 8)).take ((p + n + 7) / 8 - p / 8) = bs at *
      have hbl : bs.length ≤ 1000 := by rw [← hbs, List.length_take]; omega
      have hnD : H0 D = none := s0.none hD
      have sD : Same H (upd H D (.lst (vN (bn bs)))) := same_new hD
      have hxD : upd H D (.lst (vN (bn bs))) R.r = some (.ins A.c_BitReader R.dr (brf (.ref R.q) (.int (p : Nat)))) := sD _ _ hx
      have s0D : Same H0 (upd H D (.lst (vN (bn bs)))) := s0.trans sD
      have hDx : upd H D (.lst (vN (bn bs))) D = some (.lst (vN (bn bs))) := upd_same
      generalize upd H D (.lst (vN (bn bs))) = H1 at *
      refine ⟨D, rfl, ⟨_, SqL.of hDx⟩, ?_⟩
      refine for_list (K := K) (a := D) (xs := vN (bn bs)) (fun i σ H' => H' = H1 ∧ ∃ v4 : Option V, σ = [some (.ref R.r), some (.int (n : Nat)), some (.int ((p + n : Nat) : Int)), some (.int (fromN ((bn bs).take i) : Nat)), v4]) ⟨rfl, none, rfl⟩ (fun i σ H' _ ⟨e, _⟩ => by rw [e]; exact SqL.of hDx) ?_ ?_
      · rintro i x σ H' hi ⟨rfl, v4, rfl⟩
        obtain ⟨rfl, hil⟩ := vN_get' hi
        have hlt := fromN_lt (l := (bn bs).take i) fun x hx => bn_lt bs x (List.mem_of_mem_take hx)
        have hbits : Builtin.Int.intBits ((fromN ((bn bs).take i) : Nat) : Int) ≤ 8 * i := by
          rw [pow256, List.length_take] at hlt
          exact bits_lt (Nat.lt_of_lt_of_le hlt (Nat.pow_le_pow_right (by decide) (by omega)))
        have e27 : (2 : Int) ^ 27 = 134217728 := by decide
        rw [bn_len] at hil
        refine ⟨_, rfl, _, _, rfl, rfl, ⟨by omega, by omega⟩, _, rfl, _, _, rfl, rfl, rfl, some (.int ((bn bs).getD i 0 : Nat)), ?_⟩
        have hil' : i < (bn bs).length := by rw [bn_len]; exact hil
        have e : fromN ((bn bs).take (i + 1)) = 256 * fromN ((bn bs).take i) + (bn bs).getD i 0 := by
          unfold fromN
          rw [take_fold _ _ _ hil', getD_at hil']
        have ex : Builtin.bitOr (((fromN ((bn bs).take i) : Nat) : Int) * 2 ^ (8 : Int).toNat) (((bn bs).getD i 0 : Nat) : Int) = ((fromN ((bn bs).take (i + 1)) : Nat) : Int) := by
          have e8 : ((fromN ((bn bs).take i) : Nat) : Int) * 2 ^ (8 : Int).toNat = ((256 * fromN ((bn bs).take i) : Nat) : Int) := by
            rw [show (2 : Int) ^ (8 : Int).toNat = 256 by decide]; omega
          rw [e8, bitOr_nat, or_low (getD_lt (bn_lt bs) hil'), e]
        show [_, _, _, some (V.int (Builtin.bitOr _ _)), _] = _
        rw [ex]
      · rintro σ H' ⟨rfl, v4, rfl⟩
        rw [vN_len, List.take_length]
        refine ⟨_, rfl, _, rfl, R.r, A.c_BitReader, R.dr, _, rfl, hxD, T.l_BitReader, T.n_BitReader_place, (by show 2 < 1000; decide), ?_⟩
        rw [brf_set]
        have e27 : (2 : Int) ^ 27 = 134217728 := by decide
        have ei : Builtin.Int.intBits 1 = 1 := by decide +kernel
        refine ⟨_, rfl, _, rfl, _, rfl, _, _, rfl, rfl, (by show (0 : Int) < 8; decide), ?_⟩
        dsimp only
        rw [neg_mod8]
        refine ⟨_, _, rfl, rfl, (by omega), _, rfl, _, _, rfl, rfl, ⟨by omega, by rw [ei]; omega⟩, _, _, rfl, rfl, _, _, rfl, rfl, ?_⟩
        have ef : Builtin.bitAnd (((fromN (bn bs) : Nat) : Int) / 2 ^ ((8 * ((p + n + 7) / 8) - (p + n) : Nat) : Int).toNat) (1 * 2 ^ ((n : Nat) : Int).toNat - 1) = ((Sound.value (((Sound.bitsOf R.B).drop p).take n) : Nat) : Int) := by
          rw [Int.one_mul, Int.toNat_natCast, Int.toNat_natCast, mask, ← hv]
          unfold bn
          simp
        dsimp only
        rw [ef]
        refine k _ (same_keep s0D hn0) ⟨p + n, ?_, by omega, upd_same⟩
        rw [List.drop_drop]
def spSig (K : PySem.W.Frag) (A : Adr) : Sp := fun vs H Q E => ∃ (H0 : Hp) (R : Rdr) (n : Nat) (l : Sound.Bits), vs = [.ref R.r, .int n] ∧ Same H0 H ∧ RdI K H0 R ∧ RdS A.c_BitReader H R l ∧ n ≤ 64 ∧ GotQ A H0 R (Sound.takeS n l) (fun x H' => Q (.int x) H') E
theorem sc_BitReader_signed : FnScope ["self", "width", "number", "sign"] ["self", "width"] (defScope s_BitReader_signed) := ⟨rfl, rfl, rfl, by decide +kernel, rfl, by decide +kernel, by decide +kernel⟩
theorem RdS.obj {H : Hp} {R : Rdr} {l : Sound.Bits} (h : RdS A.c_BitReader H R l) : ∃ p : Nat, H R.r = some (.ins A.c_BitReader R.dr (brf (.ref R.q) (.int (p : Nat)))) := by
  obtain ⟨p, _, _, hx⟩ := h
  exact ⟨p, hx⟩
theorem ok_BitReader_signed (T : Txt K mg A) : FnOk P w K mg base (CX1 P w) 2 A.f_BitReader_signed A.d_BitReader_signed ["self", "width"] (spSig K A) := by
  refine T.F_BitReader_signed.okE sc_BitReader_signed (fun vs H Q E h => ?_) (fun cdv Ar outer s H vs Q E hr h => ?_)
  · obtain ⟨H0, R, n, l, rfl, _⟩ := h
    rfl
  · obtain ⟨H0, R, n, l, rfl, s0, hI, hS, hn, k⟩ := h
    refine ⟨_, pss_cons (ps_set (i := 2) sc_BitReader_signed.nd rfl (Or.inl rfl) (pe_meth (pv 0) T.l_BitReader T.e_BitReader_unsigned (ok_BitReader_unsigned T) hr T.b_BitReader_unsigned .nil passes1 (pa_cons (pv 1) pa_nil)))
      (pss_cons (ps_set (i := 3) sc_BitReader_signed.nd rfl (Or.inl rfl) (pe_op op_and (pv 2) (pe_op op_shr (pe_op op_shlB pe_int (pv 1)) pe_int)))
      (pss_one (ps_ret (pe_op op_sub (pv 2) (pe_op op_mul pe_int (pv 3)))))), ?_⟩
    obtain ⟨p, hx⟩ := hS.obj
    refine ⟨_, rfl, R.r, R.dr, _, rfl, hx, rfl, _, rfl, H0, R, n, l, rfl, s0, hI, hS, hn, ?_⟩
    unfold Sound.takeS at k
    unfold Sound.takeU
    by_cases hc : Sound.lacks n l = true
    · rw [if_pos hc] at k ⊢
      exact k
    · rw [if_neg hc] at k ⊢
      intro H1 s1 st
      have e27 : (2 : Int) ^ 27 = 134217728 := by decide
      have ei : Builtin.Int.intBits 1 = 1 := by decide +kernel
      refine ⟨_, rfl, _, rfl, _, _, rfl, rfl, ⟨by omega, by rw [ei]; omega⟩, _, _, rfl, rfl, (by show (0 : Int) ≤ 1; decide), _, _, rfl, rfl, ?_⟩
      have hl : (l.take n).length = n := by
        rw [List.length_take]
        have : ¬ l.length < n := fun z => hc ((lacks_iff n l).mpr z)
        omega
      have e1 : ((1 : Int) * 2 ^ ((n : Nat) : Int).toNat / 2 ^ (1 : Int).toNat) = ((2 ^ n / 2 : Nat) : Int) := by
        rw [Int.one_mul, Int.toNat_natCast, show (2 : Int) ^ (1 : Int).toNat = 2 by decide]; simp
      have e2 := and_top (l := l.take n)
      rw [hl] at e2
      dsimp only
      rw [e1, bitAnd_nat, e2]
      refine ⟨_, rfl, _, rfl, _, _, rfl, rfl, .inl ⟨by decide, by decide⟩, _, _, rfl, rfl, ?_⟩
      have k := k H1 s1 st
      rw [svalue_eq, hl] at k
      exact k
def spRunR (K : PySem.W.Frag) (A : Adr) : Sp := fun vs H Q E => ∃ (H0 : Hp) (R : Rdr) (m : Nat) (l : Sound.Bits), vs = [.ref R.r, .int m] ∧ Same H0 H ∧ RdI K H0 R ∧ RdS A.c_BitReader H R l ∧ GotQ A H0 R (Sound.takeRun (m + 1) 0 l) (fun x H' => Q (.int (x : Nat)) H') E
theorem sc_BitReader_run : FnScope ["self", "most", "zeros"] ["self", "most"] (defScope s_BitReader_run) := ⟨rfl, rfl, rfl, by decide +kernel, rfl, by decide +kernel, by decide +kernel⟩
theorem take1 (b : Bool) (l : Sound.Bits) : Sound.takeU 1 (b :: l) = .ok (if b = true then 1 else 0) l := by
  unfold Sound.takeU
  rw [if_neg (fun z => by have := (lacks_iff _ _).mp z; simp at this)]
  cases b <;> rfl
theorem ok_BitReader_run (T : Txt K mg A) : FnOk P w K mg base (CX1 P w) 2 A.f_BitReader_run A.d_BitReader_run ["self", "most"] (spRunR K A) := by
  refine T.F_BitReader_run.okE sc_BitReader_run (fun vs H Q E h => ?_) (fun cdv Ar outer s H vs Q E hr h => ?_)
  · obtain ⟨H0, R, m, l, rfl, _⟩ := h
    rfl
  · obtain ⟨H0, R, m, l, rfl, s0, hI, hS, k⟩ := h
    refine ⟨_, pss_cons (ps_set (i := 2) sc_BitReader_run.nd rfl (Or.inl rfl) pe_int)
      (pss_cons (ps_while PassesOwn.leaving (pt_cmpR op_eq (pe_meth (pv 0) T.l_BitReader T.e_BitReader_unsigned (ok_BitReader_unsigned T) hr T.b_BitReader_unsigned .nil passes1 (pa_cons pe_int pa_nil)) pe_int (nomark _))
        (pss_cons (ps_aug (i := 2) sc_BitReader_run.nd rfl (Or.inl rfl) pe_int iop_add)
        (pss_one (ps_if (pt_cmpR op_gt (pv 2) (pv 1) (nomark _)) (pss_one (ps_raise rfl rfl T.m_Wrong T.x_Wrong.exc raise1)) pss_nil))))
      (pss_one (ps_ret (pv 2)))), ?_⟩
    refine while_cps (fun σ H' => ∃ (z : Nat) (l' : Sound.Bits), σ = [some (.ref R.r), some (.int (m : Nat)), some (.int (z : Nat))] ∧ l'.length + z = l.length ∧ Same H0 H' ∧ RdS A.c_BitReader H' R l' ∧ GotQ A H0 R (Sound.takeRun (m + 1) z l') (fun x H' => Q (.int (x : Nat)) H') E) (muAt 2 (l.length + 1)) ⟨0, l, rfl, rfl, s0, hS, k⟩ ?_
    rintro σ H1 ⟨z, l', rfl, hl, s1, hS1, k1⟩ C ht hf
    obtain ⟨p, hx⟩ := hS1.obj
    refine ⟨_, rfl, R.r, R.dr, _, rfl, hx, rfl, H0, R, 1, l', rfl, s1, hI, hS1, by decide, ?_⟩
    cases l' with
    | nil => exact k1
    | cons b r =>
      rw [take1]
      intro H2 s2 hS2
      cases b with
      | true =>
        refine ⟨rfl, _, rfl, ?_⟩
        exact hf H2 ⟨_, rfl, k1 H2 s2 hS2⟩
      | false =>
        refine ⟨rfl, _, rfl, ?_⟩
        refine ht H2 ⟨_, rfl, _, _, rfl, rfl, ?_⟩
        dsimp only
        rw [show ((z : Nat) : Int) + 1 = ((z + 1 : Nat) : Int) by omega]
        refine ⟨_, rfl, _, rfl, _, _, rfl, rfl, _, rfl, ?_⟩
        have e : Sound.takeRun (m + 1) z (false :: r) = if m + 1 ≤ z + 1 then .bad else Sound.takeRun (m + 1) (z + 1) r := rfl
        rw [e] at k1
        refine ite2 (fun hc => ?_) fun hc => ?_
        · have hc : ((m : Nat) : Int) < ((z + 1 : Nat) : Int) := of_decide_eq_true hc
          rw [if_pos (by omega)] at k1
          exact k1 H2 s2
        · have hc : ¬ ((m : Nat) : Int) < ((z + 1 : Nat) : Int) := fun z' => hc (decide_eq_true z')
          rw [if_neg (by omega)] at k1
          rw [List.length_cons] at hl
          refine ⟨⟨z + 1, r, rfl, by omega, s2, hS2, k1⟩, ?_⟩
          show l.length + 1 - ((z + 1 : Nat) : Int).toNat < l.length + 1 - ((z : Nat) : Int).toNat
          omega
def spJoin : Sp := fun vs H Q _ => ∃ (m : Nat) (x y : Int), vs = [.int m, .int x, .int y] ∧ m < 4 ∧ ∀ D H', H D = none → Same H H' → H' D = some (.tup [.int (Sound.unpair m x y).1, .int (Sound.unpair m x y).2]) → Q (.ref D) H'
theorem sc_joined_pair : FnScope ["mode", "x", "y", "a"] ["mode", "x", "y"] (defScope s_joined_pair) := ⟨rfl, rfl, rfl, by decide +kernel, rfl, by decide +kernel, by decide +kernel⟩
theorem ok_joined_pair (T : Txt K mg A) : FnOk P w K mg base CX0 1 A.f_joined_pair A.d_joined_pair ["mode", "x", "y"] spJoin := by
  refine T.F_joined_pair.ok sc_joined_pair (fun vs H Q E h => ?_) (fun cdv Ar outer s H vs Q E hr h => ?_)
  · obtain ⟨m, x, y, rfl, _⟩ := h
    rfl
  · obtain ⟨m, x, y, rfl, hm, k⟩ := h
    refine ⟨_, pss_cons (ps_if (pt_cmpR op_eq (pv 0) pe_int (nomark _)) (pss_one (ps_ret (pe_tup (pa_cons (pv 1) (pa_cons (pv 2) pa_nil))))) pss_nil)
      (pss_cons (ps_if (pt_cmpR op_eq (pv 0) pe_int (nomark _)) (pss_one (ps_ret (pe_tup (pa_cons (pv 1) (pa_cons (pe_op op_sub (pv 1) (pv 2)) pa_nil))))) pss_nil)
      (pss_cons (ps_if (pt_cmpR op_eq (pv 0) pe_int (nomark _)) (pss_one (ps_ret (pe_tup (pa_cons (pe_op op_add (pv 1) (pv 2)) (pa_cons (pv 2) pa_nil))))) pss_nil)
      (pss_cons (ps_set (i := 3) sc_joined_pair.nd rfl (Or.inl rfl) (pe_op op_add (pv 1) (pe_op op_shr (pe_op op_add (pv 2) (pe_op op_mod (pv 2) pe_int)) pe_int)))
      (pss_one (ps_ret (pe_tup (pa_cons (pv 3) (pa_cons (pe_op op_sub (pv 3) (pv 2)) pa_nil)))))))), ?_⟩
    have z2 : (2 : Nat) ≤ sizeLine := by rw [sizeLine_eq]; omega
    have ne : ∀ a b : Nat, a ≠ b → decide (V.int ((a : Nat) : Int) = V.int ((b : Nat) : Int)) = false := fun a b h => decide_eq_false fun z => h (by have := V.int.inj z; omega)
    have fin : ∀ (x' y' : Int), (x', y') = Sound.unpair m x y → ∀ p, H p = none → Q (.ref p) (upd H p (.tup [.int x', .int y'])) := fun x' y' e p hp => by
      refine k p _ hp (same_new hp) ?_
      rw [upd_same, ← e]
    rcases (by omega : m = 0 ∨ m = 1 ∨ m = 2 ∨ m = 3) with rfl | rfl | rfl | rfl
    · exact ⟨_, rfl, rfl, _, rfl, iteT ⟨_, rfl, _, rfl, z2, fin _ _ rfl⟩⟩
    · refine ⟨_, rfl, rfl, _, rfl, ?_⟩
      refine iteF ⟨_, rfl, rfl, _, rfl, iteT ⟨_, rfl, _, rfl, _, rfl, _, _, rfl, rfl, z2, fin _ _ rfl⟩⟩
    · refine ⟨_, rfl, rfl, _, rfl, ?_⟩
      refine iteF ⟨_, rfl, rfl, _, rfl, ?_⟩
      refine iteF ⟨_, rfl, rfl, _, rfl, iteT ⟨_, rfl, _, rfl, _, _, rfl, rfl, _, rfl, z2, fin _ _ rfl⟩⟩
    · refine ⟨_, rfl, rfl, _, rfl, ?_⟩
      refine iteF ⟨_, rfl, rfl, _, rfl, ?_⟩
      refine iteF ⟨_, rfl, rfl, _, rfl, ?_⟩
      refine iteF ⟨_, rfl, _, rfl, _, rfl, _, _, rfl, rfl, (by show (0 : Int) < 2; decide), _, _, rfl, rfl, _, _, rfl, rfl, (by show (0 : Int) ≤ 1; decide), _, _, rfl, rfl, ?_⟩
      refine ⟨_, rfl, _, rfl, _, rfl, _, _, rfl, rfl, z2, fin _ _ ?_⟩
      have e : x + (y + y % 2) / 2 ^ (1 : Int).toNat = (2 * x + y % 2 + y) / 2 := by rw [show (2 : Int) ^ (1 : Int).toNat = 2 by decide]; omega
      rw [e]; rfl
def paf (m d n : V) : List (Str × V) := [("mode", m), ("depth", d), ("numbers", n)]
def spPartner (C : Addr) : Sp := fun vs H Q _ => ∃ (p dx : Addr) (m d n : V), vs = [.ref p, m, d, n] ∧ H p = some (.ins C dx []) ∧ Q .non (upd H p (.ins C dx (paf m d n)))
theorem sc_Partner_init : FnScope ["self", "mode", "depth", "numbers"] ["self", "mode", "depth", "numbers"] (defScope s_Partner_init) := ⟨rfl, rfl, rfl, by decide +kernel, rfl, by decide +kernel, by decide +kernel⟩
theorem ok_Partner_init (T : Txt K mg A) : FnOk P w K mg base CX0 1 A.f_Partner_init A.d_Partner_init ["self", "mode", "depth", "numbers"] (spPartner A.c_Partner) := by
  refine T.F_Partner_init.ok sc_Partner_init (fun vs H Q E h => ?_) (fun cdv Ar outer s H vs Q E hr h => ?_)
  · obtain ⟨p, dx, m, d, n, rfl, _⟩ := h
    rfl
  · obtain ⟨p, dx, m, d, n, rfl, hp, k⟩ := h
    refine ⟨_, pss_cons (ps_fld (pv 0) (pv 1) rfl) (pss_cons (ps_fld (pv 0) (pv 2) rfl) (pss_one (ps_fld (pv 0) (pv 3) rfl))), ?_⟩
    refine ⟨_, rfl, _, rfl, p, A.c_Partner, dx, [], rfl, hp, T.l_Partner, T.n_Partner_mode, (by show 0 < 1000; decide), ?_⟩
    refine ⟨_, rfl, _, rfl, p, A.c_Partner, dx, _, rfl, upd_same, T.l_Partner, T.n_Partner_depth, (by show 1 < 1000; decide), ?_⟩
    refine ⟨_, rfl, _, rfl, p, A.c_Partner, dx, _, rfl, upd_same, T.l_Partner, T.n_Partner_numbers, (by show 2 < 1000; decide), ?_⟩
    rw [upd_upd, upd_upd]
    exact k
def mayOf (m d : Nat) (a : List Int) (i : Nat) (y : Int) : Bool := Sound.fits d (Sound.unpair m (a.getD i 0) y).1 && Sound.fits d (Sound.unpair m (a.getD i 0) y).2
def IsPartner (K : PySem.W.Frag) (C : Addr) (H : Hp) (p : Addr) (m d : Nat) (a : List Int) : Prop := ∃ dx n, H p = some (.ins C dx (paf (.int m) (.int d) (.ref n))) ∧ SqL K H n (a.map V.int)
theorem IsPartner.same {C : Addr} {H H' : Hp} {p : Addr} {m d : Nat} {a : List Int} (h : IsPartner K C H p m d a) (s : Same H H') : IsPartner K C H' p m d a := by
  obtain ⟨dx, n, h1, h2⟩ := h
  exact ⟨dx, n, s _ _ h1, s.seq h2⟩
def spJudge (K : PySem.W.Frag) (A : Adr) : Sp := fun vs H Q E => ∃ (p : Addr) (m d i : Nat) (a : List Int) (y : Int), vs = [.ref p, .int i, .int y] ∧ IsPartner K A.c_Partner H p m d a ∧ (m < 4 ∧ 4 ≤ d ∧ d ≤ 24 ∧ i < a.length) ∧ (if mayOf m d a i y = true then ∀ H', Same H H' → Q .non H' else ∀ H', Same H H' → E (.ref A.c_Wrong) none H')
theorem sc_Partner_judge : FnScope ["self", "place", "number", "one"] ["self", "place", "number"] (defScope s_Partner_judge) := ⟨rfl, rfl, rfl, by decide +kernel, rfl, by decide +kernel, by decide +kernel⟩
theorem ok_Partner_judge (T : Txt K mg A) : FnOk P w K mg base (CX1 P w) 2 A.f_Partner_judge A.d_Partner_judge ["self", "place", "number"] (spJudge K A) := by
  refine T.F_Partner_judge.okE sc_Partner_judge (fun vs H Q E h => ?_) (fun cdv Ar outer s H vs Q E hr h => ?_)
  · obtain ⟨p, m, d, i, a, y, rfl, _⟩ := h
    rfl
  · obtain ⟨p, m, d, i, a, y, rfl, ⟨dx, n, hp, hn⟩, ⟨hm, hd1, hd2, hi⟩, k⟩ := h
    refine ⟨_, pss_one (ps_for PassesOwn.leaving rfl (pi_tup (pe_call (ok_joined_pair T) hr rfl T.m_joined_pair T.F_joined_pair.kp T.b_joined_pair .nil pass0 (pa_cons (pe_fld (pv 0) rfl) (pa_cons (pe_ix ix_list (pe_fld (pv 0) rfl) (pv 1) (fun _ _ => rfl)) (pa_cons (pv 2) pa_nil))))) (pg_name (i := 3) sc_Partner_judge.nd rfl (Or.inl rfl))
      (pss_one (ps_if (pt_not (pt_val (pe_call (ok_fits T) hr rfl T.m_fits T.F_fits.kp T.b_fits .nil pass0 (pa_cons (pe_fld (pv 0) rfl) (pa_cons (pv 3) pa_nil))))) (pss_one (ps_raise rfl rfl T.m_Wrong T.x_Wrong.exc raise1)) pss_nil))), ?_⟩
    refine ⟨_, rfl, p, A.c_Partner, dx, _, _, rfl, hp, T.l_Partner, T.n_Partner_mode, rfl, _, rfl, p, A.c_Partner, dx, _, _, rfl, hp, T.l_Partner, T.n_Partner_numbers, rfl, _, rfl, n, _, _, _, rfl, rfl, hn, atI_nat (int_get hi), _, rfl, m, a.getD i 0, y, rfl, hm, fun D H1 hD s1 hx => ?_⟩
    unfold mayOf at k
    generalize Sound.unpair m (a.getD i 0) y = uv at *
    obtain ⟨u, v⟩ := uv
    have hp1 := s1 _ _ hp
    refine ⟨D, rfl, ⟨_, SqT.of hx⟩, ?_⟩
    have hor : ∀ j, j < 2 → (∀ i, i < j → Sound.fits d ([u, v].getD i 0) = true) → Sound.fits d ([u, v].getD j 0) = false → E (.ref A.c_Wrong) none H1 := fun j hj _ hf => by
      rw [if_neg (by
        rcases (by omega : j = 0 ∨ j = 1) with rfl | rfl
        · have hf : Sound.fits d u = false := hf
          rw [hf]; simp
        · have hf : Sound.fits d v = false := hf
          rw [hf]; simp)] at k
      exact k H1 s1
    refine for_tup (K := K) (a := D) (xs := [V.int u, V.int v]) (fun j σ H' => H' = H1 ∧ (∀ i, i < j → Sound.fits d ([u, v].getD i 0) = true) ∧ ∃ v3 : Option V, σ = [some (.ref p), some (.int (i : Nat)), some (.int y), v3]) ⟨rfl, (fun i h => by omega), none, rfl⟩ (fun j σ H' _ ⟨e, _⟩ => by rw [e]; exact SqT.of hx) ?_ ?_
    · rintro j x σ H' hj ⟨rfl, hall, v3, rfl⟩
      have hj2 : j < 2 := (List.getElem?_eq_some_iff.mp hj).1
      have hx2 : x = .int ([u, v].getD j 0) := by
        rcases (by omega : j = 0 ∨ j = 1) with rfl | rfl
        · exact (Option.some.inj hj).symm
        · exact (Option.some.inj hj).symm
      subst hx2
      refine ⟨_, rfl, p, A.c_Partner, dx, _, _, rfl, hp1, T.l_Partner, T.n_Partner_depth, rfl, _, rfl, (d : Int), _, rfl, ⟨by omega, by omega⟩, _, rfl, ?_⟩
      rw [fitsP_eq (by omega)]
      cases hf : Sound.fits d ([u, v].getD j 0) with
      | false => exact iteT (hor j hj2 hall hf)
      | true =>
        refine iteF ⟨rfl, fun i hi => ?_, some (.int ([u, v].getD j 0)), rfl⟩
        rcases (by omega : i < j ∨ i = j) with q | rfl
        · exact hall i q
        · exact hf
    · rintro σ H' ⟨rfl, hall, v3, rfl⟩
      have h0 : Sound.fits d u = true := hall 0 (by show 0 < 2; decide)
      have h1 : Sound.fits d v = true := hall 1 (by show 1 < 2; decide)
      rw [if_pos (by rw [h0, h1]; rfl)] at k
      exact k H' s1
def ptf (wd z pn g t : V) : List (Str × V) := [("width", wd), ("z", z), ("partner", pn), ("guess", g), ("taken", t)]
def PtS (C : Addr) (H : Hp) (x dx t : Addr) (wd z : Nat) (pn g : V) (ys : List Int) : Prop := H x = some (.ins C dx (ptf (.int wd) (.int z) pn g (.ref t))) ∧ H t = some (.lst (ys.map V.int)) ∧ ∀ y ∈ ys, Sound.fits wd y = true
theorem PtS.ne {C : Addr} {H : Hp} {x dx t : Addr} {wd z : Nat} {pn g : V} {ys : List Int} (h : PtS C H x dx t wd z pn g ys) : t ≠ x := fun e => by
  have h1 := h.1
  rw [← e, h.2.1] at h1; cases h1
def MayI (K : PySem.W.Frag) (A : Adr) (H : Hp) (pn : V) (n : Nat) (may : Nat → Int → Bool) : Prop := (pn = .non ∧ may = fun _ _ => true) ∨ ∃ (p : Addr) (m d : Nat) (a : List Int), pn = .ref p ∧ IsPartner K A.c_Partner H p m d a ∧ (m < 4 ∧ 4 ≤ d ∧ d ≤ 24 ∧ a.length = n) ∧ may = mayOf m d a
theorem MayI.same {H H' : Hp} {pn : V} {n : Nat} {may : Nat → Int → Bool} (h : MayI K A H pn n may) (s : Same H H') : MayI K A H' pn n may := by
  rcases h with h | ⟨p, m, d, a, h1, h2, h3⟩
  · exact .inl h
  · exact .inr ⟨p, m, d, a, h1, h2.same s, h3⟩
def spTake (K : PySem.W.Frag) (A : Adr) : Sp := fun vs H Q E => ∃ (H0 : Hp) (x dx t : Addr) (wd z n : Nat) (pn g : V) (ys : List Int) (may : Nat → Int → Bool) (y : Int), vs = [.ref x, .int y] ∧ Same H0 H ∧ (H0 x = none ∧ H0 t = none) ∧ PtS A.c_PartTaken H x dx t wd z pn g ys ∧ MayI K A H0 pn n may ∧ (1 ≤ wd ∧ wd ≤ 25 ∧ z ≤ 25 ∧ ys.length < n ∧ n ≤ 256) ∧
  (if (Sound.fits wd y && may ys.length (y * 2 ^ z)) = true then ∀ H', Same H0 H' → PtS A.c_PartTaken H' x dx t wd z pn g (ys ++ [y]) → Q .non H' else ∀ H', Same H0 H' → E (.ref A.c_Wrong) none H')
theorem sc_PartTaken_take : FnScope ["self", "number"] ["self", "number"] (defScope s_PartTaken_take) := ⟨rfl, rfl, rfl, by decide +kernel, rfl, by decide +kernel, by decide +kernel⟩
theorem fits_abs {wd : Nat} {y : Int} (h : Sound.fits wd y = true) (h2 : wd ≤ 25) : y.natAbs < 2 ^ 64 := by
  unfold Sound.fits at h
  rw [Bool.and_eq_true, decide_eq_true_eq, decide_eq_true_eq] at h
  have : (2 : Int) ^ (wd - 1) ≤ 2 ^ 24 := by
    have := Nat.pow_le_pow_right (n := 2) (by decide) (show wd - 1 ≤ 24 by omega)
    exact_mod_cast this
  have e : (2 : Int) ^ 24 = 16777216 := by decide
  have e2 : (2 : Nat) ^ 64 = 18446744073709551616 := by decide
  omega
theorem ok_PartTaken_take (T : Txt K mg A) : FnOk P w K mg base (CX1 P w) 3 A.f_PartTaken_take A.d_PartTaken_take ["self", "number"] (spTake K A) := by
  refine T.F_PartTaken_take.okE sc_PartTaken_take (fun vs H Q E h => ?_) (fun cdv Ar outer s H vs Q E hr h => ?_)
  · obtain ⟨H0, x, dx, t, wd, z, n, pn, g, ys, may, y, rfl, _⟩ := h
    rfl
  · obtain ⟨H0, x, dx, t, wd, z, n, pn, g, ys, may, y, rfl, s0, ⟨hx0, ht0⟩, hP, hM, ⟨hw1, hw2, hz, hl, hn⟩, k⟩ := h
    have hr1' : Room 1 _ := hr.mono (by decide)
    refine ⟨_, pss_cons (ps_if (pt_not (pt_val (pe_call (ok_fits T) hr1' rfl T.m_fits T.F_fits.kp T.b_fits .nil pass0 (pa_cons (pe_fld (pv 0) rfl) (pa_cons (pv 1) pa_nil))))) (pss_one (ps_raise rfl rfl T.m_Wrong T.x_Wrong.exc raise1)) pss_nil)
      (pss_cons (ps_if (pt_cmp (pc_notN (pe_fld (pv 0) rfl))) (pss_one (ps_expr (pe_meth (pe_fld (pv 0) rfl) T.l_Partner T.e_Partner_judge (ok_Partner_judge T) hr T.b_Partner_judge .nil passes1
          (pa_cons (pe_callB call_len_seq (by rfl) T.z_len PySem.boot_len (pa_cons (pe_fld (pv 0) rfl) pa_nil)) (pa_cons (pe_op op_shl (pv 1) (pe_fld (pv 0) rfl)) pa_nil))))) pss_nil)
      (pss_one (ps_expr (pe_bm PySem.F.plainAttrs_list PySem.F.slot_list_append PySem.F.type_list_append mt_append (pe_fld (pv 0) rfl) (pa_cons (pv 1) pa_nil))))), ?_⟩
    obtain ⟨hx, ht, hfy⟩ := id hP
    have htx := hP.ne
    refine ⟨_, rfl, x, A.c_PartTaken, dx, _, _, rfl, hx, T.l_PartTaken, T.n_PartTaken_width, rfl, _, rfl, (wd : Int), y, rfl, ⟨by omega, by omega⟩, _, rfl, ?_⟩
    rw [fitsP_eq hw1]
    cases hf : Sound.fits wd y with
    | false =>
      rw [hf, if_neg (by simp)] at k
      exact iteT (k H s0)
    | true =>
      rw [hf, Bool.true_and] at k
      refine iteF ⟨_, rfl, x, A.c_PartTaken, dx, _, _, rfl, hx, T.l_PartTaken, T.n_PartTaken_partner, rfl, _, rfl, ?_⟩
      have fin : may ys.length (y * 2 ^ z) = true → ∀ H1, Same H H1 → tDrop (tBM K "list" rAppend (tFld K (tVar 0) "taken") (tCons (tVar 1) tNil)) { nx := fun x H' => Q V.non H', rt := Q } [some (V.ref x), some (V.int y)] H1 := fun hm H1 s1 => by
        rw [if_pos hm] at k
        have hx1 := s1 _ _ hx
        have ht1 := s1 _ _ ht
        refine ⟨_, rfl, x, A.c_PartTaken, dx, _, _, rfl, hx1, T.l_PartTaken, T.n_PartTaken_taken, rfl, .inl ⟨rfl, _, SqL.of ht1⟩, _, rfl, t, _, _, rfl, rfl, ht1, (by rw [List.length_map, sizeLine_eq]; omega), ?_⟩
        refine k _ (same_keep (s0.trans s1) ht0) ⟨?_, ?_, fun y' hy' => ?_⟩
        · rw [upd_ne (Ne.symm htx)]; exact hx1
        · rw [upd_same, List.map_append]; rfl
        · rcases List.mem_append.mp hy' with q | q
          · exact hfy y' q
          · rw [List.mem_singleton.mp q]; exact hf
      rcases hM with ⟨rfl, rfl⟩ | ⟨p, m, d, a, rfl, hPa, ⟨hm, hd1, hd2, han⟩, rfl⟩
      · exact iteF (fin rfl H (Same.refl _))
      · have hPa := hPa.same s0
        obtain ⟨dp, nn, hp, _⟩ := id hPa
        refine iteT ⟨_, rfl, x, A.c_PartTaken, dx, _, _, rfl, hx, T.l_PartTaken, T.n_PartTaken_partner, rfl, p, dp, _, rfl, hp, rfl, _, rfl, x, A.c_PartTaken, dx, _, _, rfl, hx, T.l_PartTaken, T.n_PartTaken_taken, rfl, t, _, rfl, .inl (SqL.of ht), _, rfl, _, rfl, x, A.c_PartTaken, dx, _, _, rfl, hx, T.l_PartTaken, T.n_PartTaken_z, rfl, _, _, rfl, rfl, ⟨by omega, by omega, fits_abs hf hw2⟩, p, m, d, ys.length, a, y * 2 ^ z, ?_, hPa, ⟨hm, hd1, hd2, by omega⟩, ?_⟩
        · rw [List.length_map]; rfl
        · by_cases hmay : mayOf m d a ys.length (y * 2 ^ z) = true
          · rw [if_pos hmay]
            exact fun H1 s1 => fin hmay H1 s1
          · rw [if_neg hmay] at k ⊢
            exact fun H1 s1 => k H1 (s0.trans s1)
def spPt (C : Addr) : Sp := fun vs H Q _ => ∃ (p dx : Addr) (wd z : Int) (pn : V), vs = [.ref p, .int wd, .int z, pn] ∧ H p = some (.ins C dx []) ∧ ∀ (t : Addr) (H' : Hp), H t = none → (∀ b o, H b = some o → b ≠ p → H' b = some o) → H' p = some (.ins C dx (ptf (.int (wd - z)) (.int z) pn .non (.ref t))) → H' t = some (.lst []) → Q .non H'
theorem sc_PartTaken_init : FnScope ["self", "width", "z", "partner"] ["self", "width", "z", "partner"] (defScope s_PartTaken_init) := ⟨rfl, rfl, rfl, by decide +kernel, rfl, by decide +kernel, by decide +kernel⟩
theorem ok_PartTaken_init (T : Txt K mg A) : FnOk P w K mg base CX0 1 A.f_PartTaken_init A.d_PartTaken_init ["self", "width", "z", "partner"] (spPt A.c_PartTaken) := by
  refine T.F_PartTaken_init.ok sc_PartTaken_init (fun vs H Q E h => ?_) (fun cdv Ar outer s H vs Q E hr h => ?_)
  · obtain ⟨p, dx, wd, z, pn, rfl, _⟩ := h
    rfl
  · obtain ⟨p, dx, wd, z, pn, rfl, hp, k⟩ := h
    refine ⟨_, pss_cons (ps_fld (pv 0) (pe_op op_sub (pv 1) (pv 2)) rfl) (pss_cons (ps_fld (pv 0) (pv 2) rfl) (pss_cons (ps_fld (pv 0) (pv 3) rfl) (pss_cons (ps_fld (pv 0) pe_non rfl) (pss_one (ps_fld (pv 0) (pe_lst pa_nil) rfl))))), ?_⟩
    refine ⟨_, rfl, _, rfl, _, _, rfl, rfl, _, rfl, p, A.c_PartTaken, dx, [], rfl, hp, T.l_PartTaken, T.n_PartTaken_width, (by show 0 < 1000; decide), ?_⟩
    refine ⟨_, rfl, _, rfl, p, A.c_PartTaken, dx, _, rfl, upd_same, T.l_PartTaken, T.n_PartTaken_z, (by show 1 < 1000; decide), ?_⟩
    refine ⟨_, rfl, _, rfl, p, A.c_PartTaken, dx, _, rfl, upd_same, T.l_PartTaken, T.n_PartTaken_partner, (by show 2 < 1000; decide), ?_⟩
    refine ⟨_, rfl, p, A.c_PartTaken, dx, _, rfl, upd_same, T.l_PartTaken, T.n_PartTaken_guess, (by show 3 < 1000; decide), ?_⟩
    rw [upd_upd, upd_upd, upd_upd]
    refine ⟨by rw [sizeLine_eq]; show 0 ≤ _; omega, fun t ht => ?_⟩
    have htp : t ≠ p := fun e => by rw [e, upd_same] at ht; cases ht
    have ht0 : H t = none := by rw [upd_ne htp] at ht; exact ht
    refine ⟨_, rfl, p, A.c_PartTaken, dx, _, rfl, (by rw [upd_ne (Ne.symm htp)]; exact upd_same), T.l_PartTaken, T.n_PartTaken_taken, (by show 4 < 1000; decide), ?_⟩
    refine k t _ ht0 (fun b o e hb => ?_) upd_same ?_
    · rw [upd_ne hb, upd_ne (ne_of_none e ht0), upd_ne hb]; exact e
    · rw [upd_ne htp]; exact upd_same
theorem guess_now (a ys : List Int) (h : Nat) (hl : a.length ≤ ys.length) : Sound.guess a h ys.reverse = atP a h ys ys.length := guess_at (Nat.le_refl _) hl (by rw [List.take_length])
def spTakeR (K : PySem.W.Frag) (A : Adr) : Sp := fun vs H Q E => ∃ (H0 : Hp) (x dx t ga : Addr) (wd z n h : Nat) (pn : V) (ys a : List Int) (may : Nat → Int → Bool) (e : Int), vs = [.ref x, .int e] ∧ Same H0 H ∧ (H0 x = none ∧ H0 t = none) ∧ PtS A.c_PartTaken H x dx t wd z pn (.ref ga) ys ∧ IsGuess K A.c_Guess H0 ga a h ∧ (a.length ≤ ys.length ∧ Bd 2048 a) ∧ MayI K A H0 pn n may ∧ (1 ≤ wd ∧ wd ≤ 25 ∧ z ≤ 25 ∧ ys.length < n ∧ n ≤ 256) ∧
  (if (Sound.fits wd (Sound.guess a h ys.reverse + e) && may ys.length ((Sound.guess a h ys.reverse + e) * 2 ^ z)) = true then ∀ H', Same H0 H' → PtS A.c_PartTaken H' x dx t wd z pn (.ref ga) (ys ++ [Sound.guess a h ys.reverse + e]) → Q .non H' else ∀ H', Same H0 H' → E (.ref A.c_Wrong) none H')
theorem sc_PartTaken_take_rest : FnScope ["self", "rest"] ["self", "rest"] (defScope s_PartTaken_take_rest) := ⟨rfl, rfl, rfl, by decide +kernel, rfl, by decide +kernel, by decide +kernel⟩
theorem ok_PartTaken_take_rest (T : Txt K mg A) : FnOk P w K mg base (CX1 P w) 4 A.f_PartTaken_take_rest A.d_PartTaken_take_rest ["self", "rest"] (spTakeR K A) := by
  refine T.F_PartTaken_take_rest.okE sc_PartTaken_take_rest (fun vs H Q E h => ?_) (fun cdv Ar outer s H vs Q E hr h => ?_)
  · obtain ⟨H0, x, dx, t, ga, wd, z, n, h, pn, ys, a, may, e, rfl, _⟩ := h
    rfl
  · obtain ⟨H0, x, dx, t, ga, wd, z, n, h, pn, ys, a, may, e, rfl, s0, hn0, hP, hG, ⟨hal, hbd⟩, hM, hb, k⟩ := h
    have hr1' : Room 1 _ := hr.mono (by decide)
    refine ⟨_, pss_one (ps_expr (pe_meth (pv 0) T.l_PartTaken T.e_PartTaken_take (ok_PartTaken_take T) hr T.b_PartTaken_take .nil passes1 (pa_cons (pe_op op_add (pe_meth (pe_fld (pv 0) rfl) T.l_Guess T.e_Guess_at (ok_Guess_at T) hr1' T.b_Guess_at .nil pass0
      (pa_cons (pe_fld (pv 0) rfl) (pa_cons (pe_callB call_len_seq (by rfl) T.z_len PySem.boot_len (pa_cons (pe_fld (pv 0) rfl) pa_nil)) pa_nil))) (pv 1)) pa_nil))), ?_⟩
    obtain ⟨hx, ht, _⟩ := id hP
    have hG' := hG.same s0
    obtain ⟨dg, pg, hg, _⟩ := id hG'
    refine ⟨_, rfl, x, dx, _, rfl, hx, rfl, _, rfl, x, A.c_PartTaken, dx, _, _, rfl, hx, T.l_PartTaken, T.n_PartTaken_guess, rfl, ga, dg, _, rfl, hg, rfl, _, rfl, x, A.c_PartTaken, dx, _, _, rfl, hx, T.l_PartTaken, T.n_PartTaken_taken, rfl, _, rfl, x, A.c_PartTaken, dx, _, _, rfl, hx, T.l_PartTaken, T.n_PartTaken_taken, rfl, t, _, rfl, .inl (SqL.of ht), ga, t, a, ys, h, ys.length, ?_, hG', SqL.of ht, ⟨hal, Nat.le_refl _⟩, hbd, _, rfl, _, _, rfl, rfl, ?_⟩
    · rw [List.length_map]; rfl
    · rw [guess_now a ys h hal] at k
      exact ⟨H0, x, dx, t, wd, z, n, pn, .ref ga, ys, may, _, rfl, s0, hn0, hP, hM, hb, k⟩
def spUnfold : Sp := fun vs H Q _ => ∃ n : Nat, vs = [.int n] ∧ Q (.int (Sound.unfold n)) H
theorem sc_unfolded_rest : FnScope ["folded"] ["folded"] (defScope s_unfolded_rest) := ⟨rfl, rfl, rfl, by decide +kernel, rfl, by decide +kernel, by decide +kernel⟩
theorem ok_unfolded_rest (T : Txt K mg A) : FnOk P w K mg base CX0 1 A.f_unfolded_rest A.d_unfolded_rest ["folded"] spUnfold := by
  refine T.F_unfolded_rest.ok sc_unfolded_rest (fun vs H Q E h => ?_) (fun cdv Ar outer s H vs Q E hr h => ?_)
  · obtain ⟨n, rfl, _⟩ := h
    rfl
  · obtain ⟨n, rfl, k⟩ := h
    refine ⟨_, pss_one (ps_ret (pe_ifExp (pt_cmpR op_eq (pe_op op_mod (pv 0) pe_int) pe_int (nomark _)) (pe_op op_shr (pv 0) pe_int) (pe_op op_sub (pe_un un_neg (pe_op op_shr (pv 0) pe_int)) pe_int))), ?_⟩
    refine ⟨_, rfl, _, _, rfl, rfl, (by show (0 : Int) < 2; decide), rfl, _, rfl, ?_⟩
    have e1 : ((n : Nat) : Int) / 2 ^ (1 : Int).toNat = ((n / 2 : Nat) : Int) := by rw [show (2 : Int) ^ (1 : Int).toNat = 2 by decide]; omega
    unfold Sound.unfold at k
    refine ite2 (fun hc => ?_) fun hc => ?_
    · have hc := V.int.inj (of_decide_eq_true hc)
      rw [if_neg (by omega)] at k
      refine ⟨_, rfl, _, _, rfl, rfl, (by show (0 : Int) ≤ 1; decide), ?_⟩
      dsimp only
      rw [e1]; exact k
    · have hc : ¬ ((n : Nat) : Int) % 2 = 0 := fun z => hc (decide_eq_true (show V.int (((n : Nat) : Int) % 2) = V.int 0 by rw [z]))
      rw [if_pos (by omega)] at k
      refine ⟨_, rfl, _, _, rfl, rfl, (by show (0 : Int) ≤ 1; decide), _, rfl, _, _, rfl, rfl, ?_⟩
      dsimp only
      rw [e1]
      have e2 : -((n / 2 : Nat) : Int) - 1 = -(((n + 1) / 2 : Nat) : Int) := by omega
      rw [e2]; exact k
def spWidth (f : Nat → Nat → Nat) : Sp := fun vs H Q _ => ∃ m d : Nat, vs = [.int m, .int d] ∧ Q (.int (f m d : Nat)) H
def wid1 (m d : Nat) : Nat := if m = 2 then d + 1 else d
def wid2 (m d : Nat) : Nat := if m = 1 ∨ m = 3 then d + 1 else d
theorem sc_first_width : FnScope ["mode", "depth"] ["mode", "depth"] (defScope s_first_width) := ⟨rfl, rfl, rfl, by decide +kernel, rfl, by decide +kernel, by decide +kernel⟩
theorem sc_second_width : FnScope ["mode", "depth"] ["mode", "depth"] (defScope s_second_width) := ⟨rfl, rfl, rfl, by decide +kernel, rfl, by decide +kernel, by decide +kernel⟩
theorem eq_nat (a b : Nat) : decide (V.int ((a : Nat) : Int) = V.int ((b : Nat) : Int)) = decide (a = b) := by
  by_cases h : a = b
  · rw [h, decide_eq_true rfl, decide_eq_true rfl]
  · rw [decide_eq_false h, decide_eq_false fun z => h (by have := V.int.inj z; omega)]
theorem ok_first_width (T : Txt K mg A) : FnOk P w K mg base CX0 1 A.f_first_width A.d_first_width ["mode", "depth"] (spWidth wid1) := by
  refine T.F_first_width.ok sc_first_width (fun vs H Q E h => ?_) (fun cdv Ar outer s H vs Q E hr h => ?_)
  · obtain ⟨m, d, rfl, _⟩ := h
    rfl
  · obtain ⟨m, d, rfl, k⟩ := h
    refine ⟨_, pss_one (ps_ret (pe_ifExp (pt_cmpR op_eq (pv 0) pe_int (nomark _)) (pe_op op_add (pv 1) pe_int) (pv 1))), ?_⟩
    refine ⟨_, rfl, rfl, _, rfl, ?_⟩
    unfold wid1 at k
    have e := eq_nat m 2
    refine ite2 (fun hc => ?_) fun hc => ?_
    · have hc : m = 2 := of_decide_eq_true (e.symm.trans hc)
      rw [if_pos hc] at k
      exact ⟨_, rfl, _, _, rfl, rfl, k⟩
    · rw [if_neg (fun z => hc (e.trans (decide_eq_true z)))] at k
      exact ⟨_, rfl, k⟩
theorem ok_second_width (T : Txt K mg A) : FnOk P w K mg base CX0 1 A.f_second_width A.d_second_width ["mode", "depth"] (spWidth wid2) := by
  refine T.F_second_width.ok sc_second_width (fun vs H Q E h => ?_) (fun cdv Ar outer s H vs Q E hr h => ?_)
  · obtain ⟨m, d, rfl, _⟩ := h
    rfl
  · obtain ⟨m, d, rfl, k⟩ := h
    refine ⟨_, pss_one (ps_ret (pe_ifExp (PW.pt (pw_or (pt_cmpR op_eq (pv 0) pe_int (nomark _)) (pw_or1 (pt_cmpR op_eq (pv 0) pe_int (nomark _))))) (pe_op op_add (pv 1) pe_int) (pv 1))), ?_⟩
    refine ⟨_, rfl, rfl, _, rfl, ?_⟩
    unfold wid2 at k
    have e := eq_nat m 1
    have e3 := eq_nat m 3
    refine ite2 (fun hc => ?_) fun hc => ?_
    · have hc : m = 1 := of_decide_eq_true (e.symm.trans hc)
      rw [if_pos (.inl hc)] at k
      exact iteT ⟨_, rfl, _, _, rfl, rfl, k⟩
    · refine ⟨_, rfl, rfl, _, rfl, ?_⟩
      have n1 : ¬ m = 1 := fun z => hc (e.trans (decide_eq_true z))
      refine ite2 (fun hc3 => ?_) fun hc3 => ?_
      · have hc3 : m = 3 := of_decide_eq_true (e3.symm.trans hc3)
        rw [if_pos (.inr hc3)] at k
        exact ⟨_, rfl, _, _, rfl, rfl, k⟩
      · rw [if_neg (fun z => z.elim n1 fun z => hc3 (e3.trans (decide_eq_true z)))] at k
        exact ⟨_, rfl, k⟩
def spZeros (K : PySem.W.Frag) (A : Adr) : Sp := fun vs H Q E => ∃ (H0 : Hp) (R : Rdr) (wd : Nat) (l : Sound.Bits), vs = [.ref R.r, .int wd] ∧ Same H0 H ∧ RdI K H0 R ∧ RdS A.c_BitReader H R l ∧ 2 ≤ wd ∧
  GotQ A H0 R ((Sound.takeU 1 l).then_ fun (fl : Nat) (l : Sound.Bits) => if fl = 0 then Sound.Got.ok 0 l else (Sound.takeRun (wd - 1) 0 l).then_ fun (q : Nat) (l : Sound.Bits) => .ok (q + 1) l) (fun x H' => Q (.int (x : Nat)) H') E
theorem sc_read_zeros : FnScope ["reader", "width"] ["reader", "width"] (defScope s_read_zeros) := ⟨rfl, rfl, rfl, by decide +kernel, rfl, by decide +kernel, by decide +kernel⟩
theorem ok_read_zeros (T : Txt K mg A) : FnOk P w K mg base (CX1 P w) 3 A.f_read_zeros A.d_read_zeros ["reader", "width"] (spZeros K A) := by
  refine T.F_read_zeros.okE sc_read_zeros (fun vs H Q E h => ?_) (fun cdv Ar outer s H vs Q E hr h => ?_)
  · obtain ⟨H0, R, wd, l, rfl, _⟩ := h
    rfl
  · obtain ⟨H0, R, wd, l, rfl, s0, hI, hS, hw, k⟩ := h
    have hr1' : Room 1 _ := hr.mono (by decide)
    refine ⟨_, pss_cons (ps_if (pt_cmpR op_eq (pe_meth (pv 0) T.l_BitReader T.e_BitReader_unsigned (ok_BitReader_unsigned T) hr1' T.b_BitReader_unsigned .nil passes1 (pa_cons pe_int pa_nil)) pe_int (nomark _)) (pss_one (ps_ret pe_int)) pss_nil)
      (pss_one (ps_ret (pe_op op_add (pe_meth (pv 0) T.l_BitReader T.e_BitReader_run (ok_BitReader_run T) hr T.b_BitReader_run .nil passes1 (pa_cons (pe_op op_sub (pv 1) pe_int) pa_nil)) pe_int))), ?_⟩
    obtain ⟨p, hx⟩ := hS.obj
    refine ⟨_, rfl, R.r, R.dr, _, rfl, hx, rfl, H0, R, 1, l, rfl, s0, hI, hS, by decide, k.seq fun fl l1 H1 _ s1 st1 k1 => ?_⟩
    refine ⟨rfl, _, rfl, ?_⟩
    have e := eq_nat fl 0
    refine ite2 (fun hc => ?_) fun hc => ?_
    · have hc : fl = 0 := of_decide_eq_true (e.symm.trans hc)
      rw [if_pos hc] at k1
      exact k1 H1 s1 st1
    · rw [if_neg (fun z => hc (e.trans (decide_eq_true z)))] at k1
      obtain ⟨p1, hx1⟩ := st1.obj
      refine ⟨_, rfl, R.r, R.dr, _, rfl, hx1, rfl, _, rfl, _, _, rfl, rfl, H0, R, wd - 2, l1, ?_, s1, hI, st1, ?_⟩
      · show [V.ref R.r, V.int (((wd : Nat) : Int) - 2)] = _
        rw [show ((wd : Nat) : Int) - 2 = ((wd - 2 : Nat) : Int) by omega]
      · rw [show wd - 2 + 1 = wd - 1 by omega]
        refine k1.seq fun q l2 H2 _ s2 st2 k2 => ?_
        refine ⟨_, _, rfl, rfl, ?_⟩
        have k3 : Q (.int ((q + 1 : Nat) : Int)) H2 := k2 H2 s2 st2
        rw [show ((q + 1 : Nat) : Int) = ((q : Nat) : Int) + 1 by omega] at k3
        exact k3
theorem then_assoc {α β γ : Type} (g : Sound.Got α) (f : α → Sound.Bits → Sound.Got β) (k : β → Sound.Bits → Sound.Got γ) : (g.then_ f).then_ k = g.then_ fun x l => (f x l).then_ k := by
  cases g <;> rfl
structure Prt where
  x : Addr
  dx : Addr
  t : Addr
  wd : Nat
  z : Nat
  n : Nat
  pn : V
  may : Nat → Int → Bool
def PrtI (K : PySem.W.Frag) (A : Adr) (H0 : Hp) (p : Prt) : Prop := (H0 p.x = none ∧ H0 p.t = none) ∧ MayI K A H0 p.pn p.n p.may ∧ (1 ≤ p.wd ∧ p.wd ≤ 25 ∧ p.z ≤ 25 ∧ p.n ≤ 256)
abbrev PrS (A : Adr) (H : Hp) (p : Prt) (g : V) (ys : List Int) : Prop := PtS A.c_PartTaken H p.x p.dx p.t p.wd p.z p.pn g ys
theorem rd_ne {H : Hp} {R : Rdr} {l : Sound.Bits} {p : Prt} {g : V} {ys : List Int} (h : RdS A.c_BitReader H R l) (q : PrS A H p g ys) : R.r ∉ [p.x, p.t] := fun z => by
  obtain ⟨i, hx⟩ := h.obj
  rcases List.mem_cons.mp z with z | z
  · rw [z, q.1] at hx
    injection hx with hx
    injection hx with _ _ hx
    exact absurd (congrArg List.length hx) (by show ¬ 5 = 2; decide)
  · rcases List.mem_cons.mp z with z | z
    · rw [z, q.2.1] at hx; cases hx
    · cases z
theorem PrtI.hid {H0 H : Hp} {p : Prt} (h : PrtI K A H0 p) (s : Same H0 H) : Same H0 (Wg.hid [p.x, p.t] H) ∧ PrtI K A (Wg.hid [p.x, p.t] H) p := by
  have s1 : Same H0 (Wg.hid [p.x, p.t] H) := s.hid fun b hb => by
    rcases List.mem_cons.mp hb with rfl | hb
    · exact h.1.1
    · rcases List.mem_cons.mp hb with rfl | hb
      · exact h.1.2
      · cases hb
  exact ⟨s1, ⟨hid_in (by simp), hid_in (by simp)⟩, h.2.1.same s1, h.2.2⟩
theorem RdS.hid {H H' : Hp} {R : Rdr} {l : Sound.Bits} {p : Prt} {g : V} {ys : List Int} (h : RdS A.c_BitReader H R l) (q : PrS A H p g ys) (s : Same (Wg.hid [p.x, p.t] H) H') : RdS A.c_BitReader H' R l := by
  have n := rd_ne h q
  obtain ⟨i, e, hi, hx⟩ := h
  exact ⟨i, e, hi, s _ _ (by rw [hid_out n]; exact hx)⟩
def numS (x z : Nat) (may : Nat → Int → Bool) (acc : List Int) (l : Sound.Bits) : Sound.Got Int := (Sound.takeS x l).then_ fun (y : Int) (l : Sound.Bits) => Sound.judged x z may acc.length y l
def restS (w z : Nat) (may : Nat → Int → Bool) (a : List Int) (h g v : Nat) (acc : List Int) (l : Sound.Bits) : Sound.Got Int := (Sound.takeRest g v l).then_ fun (e : Int) (l : Sound.Bits) => Sound.judged w z may acc.length (Sound.guess a h acc + e) l
def groupS (w z : Nat) (may : Nat → Int → Bool) (a : List Int) (h cnt : Nat) (ys : List Int) (l : Sound.Bits) : Sound.Got (List Int) := (Sound.takeU 5 l).then_ fun (g : Nat) (l : Sound.Bits) =>
  if g = 31 then (Sound.takeU 6 l).then_ fun (v : Nat) (l : Sound.Bits) => if 40 < v then .bad else Sound.takeMany (restS w z may a h g v) cnt ys l else Sound.takeMany (restS w z may a h g 0) cnt ys l
theorem many_succ {α : Type} (one : List α → Sound.Bits → Sound.Got α) (n : Nat) (acc : List α) (l : Sound.Bits) : Sound.takeMany one (n + 1) acc l = (one acc l).then_ fun (x : α) (r : Sound.Bits) => Sound.takeMany one n (x :: acc) r := rfl
def ManyI (K : PySem.W.Frag) (A : Adr) (H0 : Hp) (R : Rdr) (p : Prt) (gv : V) (m0 cnt : Nat) (one : List Int → Sound.Bits → Sound.Got Int) (Qf : List Int → Hp → Prop) (E : XK) (i : Nat) (H' : Hp) : Prop := ∃ (ys : List Int) (l : Sound.Bits), Same H0 H' ∧ RdS A.c_BitReader H' R l ∧ PrS A H' p gv ys ∧ ys.length = m0 + i ∧ GotQ A H0 R (Sound.takeMany one (cnt - i) ys.reverse l) Qf E
theorem judged_if (w z : Nat) (may : Nat → Int → Bool) (n : Nat) (y : Int) (l : Sound.Bits) {β : Type} (k : Int → Sound.Bits → Sound.Got β) : (Sound.judged w z may n y l).then_ k = if (Sound.fits w y && may n (y * 2 ^ z)) = true then k y l else .bad := by
  unfold Sound.judged
  split <;> rfl
def spPlainly (K : PySem.W.Frag) (A : Adr) : Sp := fun vs H Q E => ∃ (H0 : Hp) (R : Rdr) (p : Prt) (gv : V) (cnt : Nat) (ys : List Int) (l : Sound.Bits), vs = [.ref R.r, .int cnt, .ref p.x] ∧ Same H0 H ∧ RdI K H0 R ∧ PrtI K A H0 p ∧ RdS A.c_BitReader H R l ∧ PrS A H p gv ys ∧ ys.length + cnt ≤ p.n ∧
  GotQ A H0 R (Sound.takeMany (numS p.wd p.z p.may) cnt ys.reverse l) (fun acc H' => PrS A H' p gv acc.reverse → Q .non H') E
theorem sc_read_plainly : FnScope ["reader", "count", "part", "place"] ["reader", "count", "part"] (defScope s_read_plainly) := ⟨rfl, rfl, rfl, by decide +kernel, rfl, by decide +kernel, by decide +kernel⟩
theorem many_zero {H0 H' : Hp} {R : Rdr} {p : Prt} {gv : V} {m0 cnt : Nat} {one : List Int → Sound.Bits → Sound.Got Int} {Q : Hp → Prop} {E : XK} (h : ManyI K A H0 R p gv m0 cnt one (fun acc H' => PrS A H' p gv acc.reverse → Q H') E cnt H') : Q H' := by
  obtain ⟨ys, l, s1, st, hP, hl, k⟩ := h
  rw [Nat.sub_self] at k
  have k : PrS A H' p gv ys.reverse.reverse → Q H' := k H' s1 st
  rw [List.reverse_reverse] at k
  exact k hP
theorem ok_read_plainly (T : Txt K mg A) : FnOk P w K mg base (CX1 P w) 4 A.f_read_plainly A.d_read_plainly ["reader", "count", "part"] (spPlainly K A) := by
  refine T.F_read_plainly.okE sc_read_plainly (fun vs H Q E h => ?_) (fun cdv Ar outer s H vs Q E hr h => ?_)
  · obtain ⟨H0, R, p, gv, cnt, ys, l, rfl, _⟩ := h
    rfl
  · obtain ⟨H0, R, p, gv, cnt, ys, l, rfl, s0, hI, hp, hS, hP, hc, k⟩ := h
    have hr2' : Room 2 _ := hr.mono (by decide)
    refine ⟨_, pss_one (ps_for PassesOwn.leaving rfl (pi_range1 rfl T.z_range (pa_cons (pv 1) pa_nil)) (pg_name (i := 3) sc_read_plainly.nd rfl (Or.inl rfl))
      (pss_one (ps_expr (pe_meth (pv 2) T.l_PartTaken T.e_PartTaken_take (ok_PartTaken_take T) hr T.b_PartTaken_take .nil passes1 (pa_cons (pe_meth (pv 0) T.l_BitReader T.e_BitReader_signed (ok_BitReader_signed T) hr2' T.b_BitReader_signed .nil passes1 (pa_cons (pe_fld (pv 2) rfl) pa_nil)) pa_nil))))), ?_⟩
    have hnn := hp.2.2
    have e62 : (2 : Int) ^ 62 = 4611686018427387904 := by decide
    refine ⟨_, rfl, ((cnt : Nat) : Int), rfl, by omega, by omega, ?_⟩
    rw [Int.toNat_natCast]
    refine for_range (lo := 0) (n := cnt) (fun i σ H' => ManyI K A H0 R p gv ys.length cnt (numS p.wd p.z p.may) (fun acc H' => PrS A H' p gv acc.reverse → Q .non H') E i H' ∧ ∃ v3 : Option V, σ = [some (.ref R.r), some (.int (cnt : Nat)), some (.ref p.x), v3]) ⟨⟨ys, l, s0, hS, hP, rfl, k⟩, none, rfl⟩ ?_ ?_
    · rintro i σ H1 hi ⟨⟨ys1, l1, s1, st1, hP1, hl1, k1⟩, v3, rfl⟩
      obtain ⟨px, hx⟩ := st1.obj
      rw [show cnt - i = (cnt - (i + 1)) + 1 by omega, many_succ, numS, then_assoc] at k1
      refine ⟨_, rfl, p.x, p.dx, _, rfl, hP1.1, rfl, _, rfl, R.r, R.dr, _, rfl, hx, rfl, _, rfl, p.x, A.c_PartTaken, p.dx, _, _, rfl, hP1.1, T.l_PartTaken, T.n_PartTaken_width, rfl, Wg.hid [R.r] H1, R, p.wd, l1, rfl, hid_same _ _, ?_, st1, by omega, ?_⟩
      · exact hI.same (s1.hid fun b hb => by rw [List.mem_singleton.mp hb]; exact hI.2.1) (hid_in (by simp))
      have sh : Same H0 (Wg.hid [R.r] H1) := s1.hid fun b hb => by rw [List.mem_singleton.mp hb]; exact hI.2.1
      refine k1.seqL sh fun y l2 H2 _ s2 st2 k2 => ?_
      have n1 := rd_ne st1 hP1
      have hP2 : PrS A H2 p gv ys1 := ⟨s2 _ _ (by rw [hid_out (fun z => n1 (by rw [← List.mem_singleton.mp z]; simp))]; exact hP1.1), s2 _ _ (by rw [hid_out (fun z => n1 (by rw [← List.mem_singleton.mp z]; simp))]; exact hP1.2.1), hP1.2.2⟩
      have s02 := sh.trans s2
      obtain ⟨s3, hp3⟩ := hp.hid s02
      rw [judged_if] at k2
      refine ⟨Wg.hid [p.x, p.t] H2, p.x, p.dx, p.t, p.wd, p.z, p.n, p.pn, gv, ys1, p.may, y, rfl, hid_same _ _, hp3.1, hP2, hp3.2.1, ⟨hnn.1, hnn.2.1, hnn.2.2.1, by omega, hnn.2.2.2⟩, ?_⟩
      rw [List.length_reverse] at k2
      by_cases hj : (Sound.fits p.wd y && p.may ys1.length (y * 2 ^ p.z)) = true
      · rw [if_pos hj] at k2 ⊢
        refine fun H3 s4 hP3 => ⟨⟨ys1 ++ [y], l2, s3.trans s4, st2.hid hP2 s4, hP3, by rw [List.length_append, hl1]; rfl, ?_⟩, some (.int (0 + (i : Nat))), rfl⟩
        rw [List.reverse_append]
        exact k2
      · rw [if_neg hj] at k2 ⊢
        exact fun H3 s4 => k2 H3 (s3.trans s4)
    · rintro σ H1 ⟨hm, v3, rfl⟩
      exact many_zero hm
theorem rest31 (v : Nat) (l : Sound.Bits) : Sound.takeRest 31 v l = Sound.takeS v l := by
  unfold Sound.takeRest
  rw [if_pos rfl]
  by_cases h : v = 0
  · subst h
    rw [if_pos rfl]
    unfold Sound.takeS
    rw [if_neg (fun z => by have := (lacks_iff _ _).mp z; omega)]
    rfl
  · rw [if_neg h]
theorem rest_step {H0 H2 : Hp} {R : Rdr} {p : Prt} {ga : Addr} {a ys1 : List Int} {h m0 cnt i : Nat} {l2 : Sound.Bits} {one : List Int → Sound.Bits → Sound.Got Int} {Qf : List Int → Hp → Prop} {Qn : Hp → Prop} {E : XK} {e : Int} (hp : PrtI K A H0 p) (hG : IsGuess K A.c_Guess H0 ga a h) (hbd : Bd 2048 a) (hal : a.length ≤ ys1.length)
    (s2 : Same H0 H2) (st2 : RdS A.c_BitReader H2 R l2) (hP2 : PrS A H2 p (.ref ga) ys1) (hl1 : ys1.length = m0 + i) (hn : ys1.length < p.n) (k2 : GotQ A H0 R ((Sound.judged p.wd p.z p.may ys1.reverse.length (Sound.guess a h ys1.reverse + e) l2).then_ fun (x : Int) (r : Sound.Bits) => Sound.takeMany one (cnt - (i + 1)) (x :: ys1.reverse) r) Qf E)
    (fin : ∀ H3, ManyI K A H0 R p (.ref ga) m0 cnt one Qf E (i + 1) H3 → Qn H3) : spTakeR K A [.ref p.x, .int e] H2 (fun v H3 => Qn H3) E := by
  obtain ⟨s3, hp3⟩ := hp.hid s2
  have hnn := hp.2.2
  rw [judged_if, List.length_reverse] at k2
  refine ⟨Wg.hid [p.x, p.t] H2, p.x, p.dx, p.t, ga, p.wd, p.z, p.n, h, p.pn, ys1, a, p.may, e, rfl, hid_same _ _, hp3.1, hP2, hG.same s3, ⟨hal, hbd⟩, hp3.2.1, ⟨hnn.1, hnn.2.1, hnn.2.2.1, hn, hnn.2.2.2⟩, ?_⟩
  by_cases hj : (Sound.fits p.wd (Sound.guess a h ys1.reverse + e) && p.may ys1.length ((Sound.guess a h ys1.reverse + e) * 2 ^ p.z)) = true
  · rw [if_pos hj] at k2 ⊢
    refine fun H3 s4 hP3 => fin H3 ⟨ys1 ++ [Sound.guess a h ys1.reverse + e], l2, s3.trans s4, st2.hid hP2 s4, hP3, by rw [List.length_append, hl1]; rfl, ?_⟩
    rw [List.reverse_append]
    exact k2
  · rw [if_neg hj] at k2 ⊢
    exact fun H3 s4 => k2 H3 (s3.trans s4)
def GsI (K : PySem.W.Frag) (A : Adr) (H0 : Hp) (ga : Addr) (a : List Int) (h : Nat) (m : Nat) : Prop := IsGuess K A.c_Guess H0 ga a h ∧ Bd 2048 a ∧ a.length ≤ m
def spPlain (K : PySem.W.Frag) (A : Adr) : Sp := fun vs H Q E => ∃ (H0 : Hp) (R : Rdr) (p : Prt) (ga : Addr) (a : List Int) (h cnt : Nat) (ys : List Int) (l : Sound.Bits), vs = [.ref R.r, .int cnt, .ref p.x] ∧ Same H0 H ∧ RdI K H0 R ∧ PrtI K A H0 p ∧ GsI K A H0 ga a h ys.length ∧ RdS A.c_BitReader H R l ∧ PrS A H p (.ref ga) ys ∧ ys.length + cnt ≤ p.n ∧
  GotQ A H0 R ((Sound.takeU 6 l).then_ fun (v : Nat) (l : Sound.Bits) => if 40 < v then .bad else Sound.takeMany (restS p.wd p.z p.may a h 31 v) cnt ys.reverse l) (fun acc H' => PrS A H' p (.ref ga) acc.reverse → Q .non H') E
theorem sc_read_plain : FnScope ["reader", "count", "part", "v", "place"] ["reader", "count", "part"] (defScope s_read_plain) := ⟨rfl, rfl, rfl, by decide +kernel, rfl, by decide +kernel, by decide +kernel⟩
theorem RdI.hid {H0 H : Hp} {R : Rdr} (h : RdI K H0 R) (s : Same H0 H) : Same H0 (Wg.hid [R.r] H) ∧ RdI K (Wg.hid [R.r] H) R := by
  have s1 : Same H0 (Wg.hid [R.r] H) := s.hid fun b hb => by rw [List.mem_singleton.mp hb]; exact h.2.1
  exact ⟨s1, h.same s1 (hid_in (by simp))⟩
theorem pr_hid {H H' : Hp} {R : Rdr} {l : Sound.Bits} {p : Prt} {g : V} {ys : List Int} (st : RdS A.c_BitReader H R l) (q : PrS A H p g ys) (s : Same (Wg.hid [R.r] H) H') : PrS A H' p g ys := by
  have n1 := rd_ne st q
  exact ⟨s _ _ (by rw [hid_out (fun z => n1 (by rw [← List.mem_singleton.mp z]; simp))]; exact q.1), s _ _ (by rw [hid_out (fun z => n1 (by rw [← List.mem_singleton.mp z]; simp))]; exact q.2.1), q.2.2⟩
theorem ok_read_plain (T : Txt K mg A) : FnOk P w K mg base (CX1 P w) 5 A.f_read_plain A.d_read_plain ["reader", "count", "part"] (spPlain K A) := by
  refine T.F_read_plain.okE sc_read_plain (fun vs H Q E h => ?_) (fun cdv Ar outer s H vs Q E hr h => ?_)
  · obtain ⟨H0, R, p, ga, a, h, cnt, ys, l, rfl, _⟩ := h
    rfl
  · obtain ⟨H0, R, p, ga, a, h, cnt, ys, l, rfl, s0, hI, hp, ⟨hG, hbd, hal⟩, hS, hP, hc, k⟩ := h
    have hr1' : Room 1 _ := hr.mono (by decide)
    have hr2' : Room 2 _ := hr.mono (by decide)
    refine ⟨_, pss_cons (ps_set (i := 3) sc_read_plain.nd rfl (Or.inl rfl) (pe_meth (pv 0) T.l_BitReader T.e_BitReader_unsigned (ok_BitReader_unsigned T) hr1' T.b_BitReader_unsigned .nil passes1 (pa_cons pe_int pa_nil)))
      (pss_cons (ps_if (pt_cmpR op_gt (pv 3) (pe_gi rfl T.g_GREATEST_PLAIN_WIDTH) (nomark _)) (pss_one (ps_raise rfl rfl T.m_Wrong T.x_Wrong.exc raise1)) pss_nil)
      (pss_one (ps_for PassesOwn.leaving rfl (pi_range1 rfl T.z_range (pa_cons (pv 1) pa_nil)) (pg_name (i := 4) sc_read_plain.nd rfl (Or.inl rfl))
        (pss_one (ps_expr (pe_meth (pv 2) T.l_PartTaken T.e_PartTaken_take_rest (ok_PartTaken_take_rest T) hr T.b_PartTaken_take_rest .nil passes1 (pa_cons (pe_meth (pv 0) T.l_BitReader T.e_BitReader_signed (ok_BitReader_signed T) hr2' T.b_BitReader_signed .nil passes1 (pa_cons (pv 3) pa_nil)) pa_nil))))))), ?_⟩
    have hnn := hp.2.2
    have e62 : (2 : Int) ^ 62 = 4611686018427387904 := by decide
    obtain ⟨px, hx⟩ := hS.obj
    obtain ⟨sh, hIh⟩ := hI.hid s0
    refine ⟨_, rfl, R.r, R.dr, _, rfl, hx, rfl, Wg.hid [R.r] H, R, 6, l, rfl, hid_same _ _, hIh, hS, by decide, k.seqL sh fun v l1 H1 _ s1 st1 k1 => ?_⟩
    have hP1 := pr_hid hS hP s1
    have s01 := sh.trans s1
    refine ⟨_, rfl, _, _, rfl, rfl, _, rfl, ?_⟩
    refine ite2 (fun hc => ?_) fun hc40 => ?_
    · have hc : (40 : Int) < ((v : Nat) : Int) := of_decide_eq_true hc
      rw [if_pos (by omega)] at k1
      exact k1 H1 s01
    · have hc40 : ¬ (40 : Int) < ((v : Nat) : Int) := fun z => hc40 (decide_eq_true z)
      rw [if_neg (by omega)] at k1
      refine ⟨_, rfl, ((cnt : Nat) : Int), rfl, by omega, by omega, ?_⟩
      rw [Int.toNat_natCast]
      refine for_range (lo := 0) (n := cnt) (fun i σ H' => ManyI K A H0 R p (.ref ga) ys.length cnt (restS p.wd p.z p.may a h 31 v) (fun acc H' => PrS A H' p (.ref ga) acc.reverse → Q .non H') E i H' ∧ ∃ v4 : Option V, σ = [some (.ref R.r), some (.int (cnt : Nat)), some (.ref p.x), some (.int (v : Nat)), v4]) ⟨⟨ys, l1, s01, st1, hP1, rfl, k1⟩, none, rfl⟩ ?_ ?_
      · rintro i σ H2 hi ⟨⟨ys1, l2, s2, st2, hP2, hl2, k2⟩, v4, rfl⟩
        obtain ⟨px2, hx2⟩ := st2.obj
        rw [show cnt - i = (cnt - (i + 1)) + 1 by omega, many_succ, restS, then_assoc, rest31] at k2
        obtain ⟨sh2, hIh2⟩ := hI.hid s2
        refine ⟨_, rfl, p.x, p.dx, _, rfl, hP2.1, rfl, _, rfl, R.r, R.dr, _, rfl, hx2, rfl, _, rfl, Wg.hid [R.r] H2, R, v, l2, rfl, hid_same _ _, hIh2, st2, by omega, k2.seqL sh2 fun e l3 H3 _ s3 st3 k3 => ?_⟩
        exact rest_step hp hG hbd (by omega) (sh2.trans s3) st3 (pr_hid st2 hP2 s3) hl2 (by omega) k3 fun H4 hm => ⟨hm, some (.int (0 + (i : Nat))), rfl⟩
      · rintro σ H2 ⟨hm, v4, rfl⟩
        exact many_zero hm
def spGroup (K : PySem.W.Frag) (A : Adr) : Sp := fun vs H Q E => ∃ (H0 : Hp) (R : Rdr) (p : Prt) (ga : Addr) (a : List Int) (h cnt : Nat) (ys : List Int) (l : Sound.Bits), vs = [.ref R.r, .int cnt, .ref p.x] ∧ Same H0 H ∧ RdI K H0 R ∧ PrtI K A H0 p ∧ GsI K A H0 ga a h ys.length ∧ RdS A.c_BitReader H R l ∧ PrS A H p (.ref ga) ys ∧ ys.length + cnt ≤ p.n ∧
  GotQ A H0 R (groupS p.wd p.z p.may a h cnt ys.reverse l) (fun acc H' => PrS A H' p (.ref ga) acc.reverse → Q .non H') E
theorem sc_read_group : FnScope ["reader", "count", "part", "g", "place", "run"] ["reader", "count", "part"] (defScope s_read_group) := ⟨rfl, rfl, rfl, by decide +kernel, rfl, by decide +kernel, by decide +kernel⟩
theorem u_lt {n : Nat} {l : Sound.Bits} {x : Nat} {r : Sound.Bits} (h : Sound.takeU n l = .ok x r) : x < 2 ^ n := by
  unfold Sound.takeU at h
  split at h
  · cases h
  · cases h
    have := value_lt (l.take n)
    exact Nat.lt_of_lt_of_le this (Nat.pow_le_pow_right (by decide) (by rw [List.length_take]; omega))
theorem great_g {g : Nat} (h : g < 31) : 1099511627775 / 2 ^ g + 1 = Sound.GREAT / 2 ^ g := by
  have : ∀ g : Nat, g < 31 → 1099511627775 / 2 ^ g + 1 = Sound.GREAT / 2 ^ g := by decide
  exact this g h
theorem run_lt {m : Nat} : ∀ {l : Sound.Bits} {q x : Nat} {r : Sound.Bits}, Sound.takeRun m q l = .ok x r → x ≤ q + l.length
  | [], q, x, r, h => by unfold Sound.takeRun at h; cases h
  | true :: l, q, x, r, h => by unfold Sound.takeRun at h; cases h; omega
  | false :: l, q, x, r, h => by
    have e : Sound.takeRun m q (false :: l) = if m ≤ q + 1 then .bad else Sound.takeRun m (q + 1) l := rfl
    rw [e] at h
    split at h
    · cases h
    · have := run_lt h
      rw [List.length_cons]; omega
theorem RdS.len {H : Hp} {R : Rdr} {l : Sound.Bits} (h : RdS A.c_BitReader H R l) (hI : R.B.length ≤ 4096) : l.length ≤ 32768 := by
  obtain ⟨i, rfl, _⟩ := h
  rw [List.length_drop, bitsOf_len]; omega
theorem ok_read_group (T : Txt K mg A) : FnOk P w K mg base (CX1 P w) 6 A.f_read_group A.d_read_group ["reader", "count", "part"] (spGroup K A) := by
  refine T.F_read_group.okE sc_read_group (fun vs H Q E h => ?_) (fun cdv Ar outer s H vs Q E hr h => ?_)
  · obtain ⟨H0, R, p, ga, a, h, cnt, ys, l, rfl, _⟩ := h
    rfl
  · obtain ⟨H0, R, p, ga, a, h, cnt, ys, l, rfl, s0, hI, hp, hGs, hS, hP, hc, k⟩ := h
    obtain ⟨hG, hbd, hal⟩ := id hGs
    have hr1' : Room 1 _ := hr.mono (by decide)
    have hr2' : Room 2 _ := hr.mono (by decide)
    have hr4' : Room 4 _ := hr.mono (by decide)
    refine ⟨_, pss_cons (ps_set (i := 3) sc_read_group.nd rfl (Or.inl rfl) (pe_meth (pv 0) T.l_BitReader T.e_BitReader_unsigned (ok_BitReader_unsigned T) hr1' T.b_BitReader_unsigned .nil passes1 (pa_cons pe_int pa_nil)))
      (pss_cons (ps_if (pt_cmpR op_eq (pv 3) (pe_gi rfl T.g_PLAIN) (nomark _)) (pss_cons (ps_expr (pe_call (ok_read_plain T) hr rfl T.m_read_plain T.F_read_plain.kp T.b_read_plain .nil passes1 (pa_cons (pv 0) (pa_cons (pv 1) (pa_cons (pv 2) pa_nil))))) (pss_one ps_retN)) pss_nil)
      (pss_one (ps_for PassesOwn.leaving rfl (pi_range1 rfl T.z_range (pa_cons (pv 1) pa_nil)) (pg_name (i := 4) sc_read_group.nd rfl (Or.inl rfl))
        (pss_cons (ps_set (i := 5) sc_read_group.nd rfl (Or.inl rfl) (pe_meth (pv 0) T.l_BitReader T.e_BitReader_run (ok_BitReader_run T) hr2' T.b_BitReader_run .nil passes1 (pa_cons (pe_op op_shr (pe_gi rfl T.g_GREATEST_FOLDED) (pv 3)) pa_nil)))
        (pss_one (ps_expr (pe_meth (pv 2) T.l_PartTaken T.e_PartTaken_take_rest (ok_PartTaken_take_rest T) hr4' T.b_PartTaken_take_rest .nil passes1 (pa_cons (pe_call (ok_unfolded_rest T) hr1' rfl T.m_unfolded_rest T.F_unfolded_rest.kp T.b_unfolded_rest .nil pass0
          (pa_cons (pe_op op_add (pe_op op_shl (pv 5) (pv 3)) (pe_meth (pv 0) T.l_BitReader T.e_BitReader_unsigned (ok_BitReader_unsigned T) hr1' T.b_BitReader_unsigned .nil passes1 (pa_cons (pv 3) pa_nil))) pa_nil)) pa_nil)))))))), ?_⟩
    have hnn := hp.2.2
    have e62 : (2 : Int) ^ 62 = 4611686018427387904 := by decide
    obtain ⟨px, hx⟩ := hS.obj
    obtain ⟨sh, hIh⟩ := hI.hid s0
    unfold groupS at k
    refine ⟨_, rfl, R.r, R.dr, _, rfl, hx, rfl, Wg.hid [R.r] H, R, 5, l, rfl, hid_same _ _, hIh, hS, by decide, k.seqL sh fun g l1 H1 eg s1 st1 k1 => ?_⟩
    have hP1 := pr_hid hS hP s1
    have s01 := sh.trans s1
    have hg32 : g < 32 := u_lt eg
    refine ⟨_, rfl, rfl, _, rfl, ?_⟩
    have e31 := eq_nat g 31
    refine ite2 (fun hc => ?_) fun hc31 => ?_
    · have hc : g = 31 := of_decide_eq_true (e31.symm.trans hc)
      subst hc
      rw [if_pos rfl] at k1
      exact ⟨_, rfl, _, rfl, _, rfl, H0, R, p, ga, a, h, cnt, ys, l1, rfl, s01, hI, hp, hGs, st1, hP1, by omega, k1⟩
    · have hne : g ≠ 31 := fun z => hc31 (e31.trans (decide_eq_true z))
      rw [if_neg hne] at k1
      refine ⟨_, rfl, ((cnt : Nat) : Int), rfl, by omega, by omega, ?_⟩
      rw [Int.toNat_natCast]
      refine for_range (lo := 0) (n := cnt) (fun i σ H' => ManyI K A H0 R p (.ref ga) ys.length cnt (restS p.wd p.z p.may a h g 0) (fun acc H' => PrS A H' p (.ref ga) acc.reverse → Q .non H') E i H' ∧ ∃ v4 v5 : Option V, σ = [some (.ref R.r), some (.int (cnt : Nat)), some (.ref p.x), some (.int (g : Nat)), v4, v5]) ⟨⟨ys, l1, s01, st1, hP1, rfl, k1⟩, none, none, rfl⟩ ?_ ?_
      · rintro i σ H2 hi ⟨⟨ys1, l2, s2, st2, hP2, hl2, k2⟩, v4, v5, rfl⟩
        obtain ⟨px2, hx2⟩ := st2.obj
        have er : Sound.takeRest g 0 l2 = (Sound.takeRun (Sound.GREAT / 2 ^ g) 0 l2).then_ fun (q : Nat) (r : Sound.Bits) => (Sound.takeU g r).then_ fun (x : Nat) (r : Sound.Bits) => .ok (Sound.unfold (q * 2 ^ g + x)) r := by
          unfold Sound.takeRest; rw [if_neg hne]
        rw [show cnt - i = (cnt - (i + 1)) + 1 by omega, many_succ, restS, then_assoc, er, then_assoc] at k2
        obtain ⟨sh2, hIh2⟩ := hI.hid s2
        refine ⟨_, rfl, R.r, R.dr, _, rfl, hx2, rfl, _, rfl, _, _, rfl, rfl, (by omega), Wg.hid [R.r] H2, R, 1099511627775 / 2 ^ g, l2, ?_, hid_same _ _, hIh2, st2, ?_⟩
        · show [V.ref R.r, V.int ((1099511627775 : Int) / 2 ^ ((g : Nat) : Int).toNat)] = _
          rw [Int.toNat_natCast]; rfl
        rw [great_g (by omega)]
        refine k2.seqL sh2 fun q l3 H3 eq s3 st3 k3 => ?_
        have hql := run_lt eq
        have hl2l := st2.len hI.2.2
        rw [then_assoc] at k3
        have hP3 := pr_hid st2 hP2 s3
        have s03 := sh2.trans s3
        obtain ⟨px3, hx3⟩ := st3.obj
        obtain ⟨sh3, hIh3⟩ := hI.hid s03
        have e64 : (2 : Nat) ^ 64 = 18446744073709551616 := by decide
        refine ⟨_, rfl, p.x, p.dx, _, rfl, hP3.1, rfl, _, rfl, _, rfl, _, _, rfl, rfl, ⟨by omega, by omega, by rw [Int.natAbs_natCast]; omega⟩, _, rfl, R.r, R.dr, _, rfl, hx3, rfl, _, rfl, Wg.hid [R.r] H3, R, g, l3, rfl, hid_same _ _, hIh3, st3, by omega, k3.seqL sh3 fun x l4 H4 _ s4 st4 k4 => ?_⟩
        refine ⟨_, _, rfl, rfl, q * 2 ^ g + x, ?_, ?_⟩
        · show [V.int (((q : Nat) : Int) * 2 ^ ((g : Nat) : Int).toNat + ((x : Nat) : Int))] = _
          rw [Int.toNat_natCast]
          simp
        · exact rest_step hp hG hbd (by omega) (sh3.trans s4) st4 (pr_hid st3 hP3 s4) hl2 (by omega) k4 fun H5 hm => ⟨hm, some (.int (0 + (i : Nat))), some (.int (q : Nat)), rfl⟩
      · rintro σ H2 ⟨hm, v4, v5, rfl⟩
        exact many_zero hm
theorem lc_st {J : It} {H1 : Hp} {D : Addr} {σ : L2.St} {vs : List Nat} {g : TG} {te : TE} {Qf : Hp → Prop} (n : Nat) (hn : n ≤ sizeLine) (Pv : Nat → List V → Hp → Prop) (h0 : Pv 0 [] (upd H1 D (.lst [])))
    (hgo : ∀ i acc H, i < n → Pv i acc H → J.go i H) (hstop : ∀ acc H, Pv n acc H → J.stop n H)
    (turn : ∀ i acc H x H', i < n → Pv i acc H → H D = some (.lst acc) → acc.length = i → J.yld i H x H' → ∀ C : VK, (∀ y H4, H4 D = some (.lst acc) → Pv (i + 1) (acc ++ [y]) (upd H4 D (.lst (acc ++ [y]))) → C y H4) → g x (wipe σ vs) H' fun σ2 H2 => wipe σ2 vs = wipe σ vs ∧ te σ2 H2 C)
    (fin : ∀ acc H, Pv n acc H → H D = some (.lst acc) → acc.length = n → Qf H) :
    ∃ W : Nat → Nat → Hp → Prop, (∃ m, W 0 m (upd H1 D (.lst []))) ∧ ∀ i m H, W i m H →
      (J.stop i H ∧ Qf H) ∨ (J.go i H ∧ ∃ Nx : Hp → Prop, (∀ H', Nx H' → ∃ m', m' < m ∧ W (i + 1) m' H') ∧ ∀ x H', J.yld i H x H' → g x (wipe σ vs) H' fun σ2 H2 => wipe σ2 vs = wipe σ vs ∧ tYes σ2 H2 fun b H3 =>
        if b = true then te σ2 H3 fun y H4 => ∃ acc, H4 D = some (.lst acc) ∧ acc.length < sizeLine ∧ Nx (upd H4 D (.lst (acc ++ [y]))) else Nx H3) := by
  refine ⟨fun i m H => i + m = n ∧ ∃ acc, Pv i acc H ∧ H D = some (.lst acc) ∧ acc.length = i, ⟨n, by omega, [], h0, upd_same, rfl⟩, ?_⟩
  rintro i m H ⟨hm, acc, hp, hD, hl⟩
  by_cases hi : i = n
  · subst hi
    exact .inl ⟨hstop acc H hp, fin acc H hp hD hl⟩
  · refine .inr ⟨hgo i acc H (by omega) hp, fun H' => ∃ acc', Pv (i + 1) acc' H' ∧ H' D = some (.lst acc') ∧ acc'.length = i + 1, fun H' h => ⟨m - 1, by omega, by omega, h⟩, fun x H' hy => ?_⟩
    refine turn i acc H x H' (by omega) hp hD hl hy _ fun y H4 hD4 hp4 => ⟨acc, hD4, by omega, acc ++ [y], hp4, upd_same, by rw [List.length_append, hl]; rfl⟩
theorem many_len {α : Type} {one : List α → Sound.Bits → Sound.Got α} : ∀ {n : Nat} {acc xs : List α} {l r : Sound.Bits}, Sound.takeMany one n acc l = .ok xs r → xs.length = acc.length + n
  | 0, acc, xs, l, r, h => by unfold Sound.takeMany at h; cases h; rfl
  | n + 1, acc, xs, l, r, h => by
    rw [many_succ] at h
    cases e : one acc l with
    | ok x l' =>
      rw [e] at h
      have := many_len (show Sound.takeMany one n (x :: acc) l' = .ok xs r from h)
      rw [this, List.length_cons]; omega
    | bad => rw [e] at h; cases h
    | short => rw [e] at h; cases h
theorem groupS_len {w z : Nat} {may : Nat → Int → Bool} {a : List Int} {h cnt : Nat} {ys xs : List Int} {l r : Sound.Bits} (e : groupS w z may a h cnt ys l = .ok xs r) : xs.length = ys.length + cnt := by
  unfold groupS at e
  cases e1 : Sound.takeU 5 l with
  | ok g l1 =>
    rw [e1] at e
    have e : (if g = 31 then (Sound.takeU 6 l1).then_ fun (v : Nat) (l : Sound.Bits) => if 40 < v then .bad else Sound.takeMany (restS w z may a h g v) cnt ys l else Sound.takeMany (restS w z may a h g 0) cnt ys l1) = .ok xs r := e
    split at e
    · cases e2 : Sound.takeU 6 l1 with
      | ok v l2 =>
        rw [e2] at e
        have e : (if 40 < v then .bad else Sound.takeMany (restS w z may a h g v) cnt ys l2) = .ok xs r := e
        split at e
        · cases e
        · exact many_len e
      | bad => rw [e2] at e; cases e
      | short => rw [e2] at e; cases e
    · exact many_len e
  | bad => rw [e1] at e; cases e
  | short => rw [e1] at e; cases e
theorem tg_succ (w z n p r : Nat) (a : List Int) (h : Nat) (may : Nat → Int → Bool) (k i : Nat) (ys : List Int) (l : Sound.Bits) : Sound.takeGroups w z n p r a h may (k + 1) i ys l = (groupS w z may a h (n / 2 ^ r - (if i = 0 then p else 0)) ys l).then_ fun (ys : List Int) (l : Sound.Bits) => Sound.takeGroups w z n p r a h may k (i + 1) ys l := by
  conv => lhs; unfold Sound.takeGroups
  unfold groupS
  rw [then_assoc]
  congr 1
  funext g l
  by_cases hg : g = 31
  · rw [if_pos hg, if_pos hg, then_assoc]
    congr 1
    funext v l
    by_cases hv : 40 < v
    · rw [if_pos hv, if_pos hv]; rfl
    · rw [if_neg hv, if_neg hv]; rfl
  · rw [if_neg hg, if_neg hg]; rfl
def groupsS (w z n : Nat) (may : Nat → Int → Bool) (p : Nat) (a : List Int) (h : Nat) (ys : List Int) (l : Sound.Bits) : Sound.Got (List Int) := (Sound.takeU 3 l).then_ fun (r : Nat) (l : Sound.Bits) => if 6 < r ∨ Sound.mayCut n p r = false then (.bad : Sound.Got (List Int)) else Sound.takeGroups w z n p r a h may (2 ^ r) 0 ys l
theorem split_cut (n p r : Nat) : canSplit n p r = true ↔ ¬ (6 < r ∨ Sound.mayCut n p r = false) := by
  unfold canSplit Sound.mayCut
  have e : n / 2 ^ r * 2 ^ r = n ↔ n % 2 ^ r = 0 := by
    have := Nat.div_add_mod n (2 ^ r)
    rw [Nat.mul_comm] at this
    omega
  simp only [Bool.and_eq_true, decide_eq_true_eq, not_or, Nat.not_lt, Bool.not_eq_false, beq_iff_eq, e]
def spRests (K : PySem.W.Frag) (A : Adr) : Sp := fun vs H Q E => ∃ (H0 : Hp) (R : Rdr) (p : Prt) (ga : Addr) (a : List Int) (h : Nat) (ys : List Int) (l : Sound.Bits), vs = [.ref R.r, .int p.n, .int (a.length : Nat), .ref p.x] ∧ Same H0 H ∧ RdI K H0 R ∧ PrtI K A H0 p ∧ GsI K A H0 ga a h ys.length ∧ RdS A.c_BitReader H R l ∧ PrS A H p (.ref ga) ys ∧ (ys.length = a.length ∧ a.length ≤ 4) ∧
  GotQ A H0 R (groupsS p.wd p.z p.n p.may a.length a h ys.reverse l) (fun acc H' => PrS A H' p (.ref ga) acc.reverse → Q .non H') E
theorem sc_read_rests : FnScope ["reader", "n", "order", "part", "r", "size", "count", "group"] ["reader", "n", "order", "part"] (defScope s_read_rests) := ⟨rfl, rfl, rfl, by decide +kernel, rfl, by decide +kernel, by decide +kernel⟩
theorem ok_read_rests (T : Txt K mg A) : FnOk P w K mg base (CX1 P w) 7 A.f_read_rests A.d_read_rests ["reader", "n", "order", "part"] (spRests K A) := by
  refine T.F_read_rests.okE sc_read_rests (fun vs H Q E h => ?_) (fun cdv Ar outer s H vs Q E hr h => ?_)
  · obtain ⟨H0, R, p, ga, a, h, ys, l, rfl, _⟩ := h
    rfl
  · obtain ⟨H0, R, p, ga, a, h, ys, l, rfl, s0, hI, hp, hGs, hS, hP, ⟨hyl, ha4⟩, k⟩ := h
    have hr1' : Room 1 _ := hr.mono (by decide)
    refine ⟨_, pss_cons (ps_set (i := 4) sc_read_rests.nd rfl (Or.inl rfl) (pe_meth (pv 0) T.l_BitReader T.e_BitReader_unsigned (ok_BitReader_unsigned T) hr1' T.b_BitReader_unsigned .nil passes1 (pa_cons pe_int pa_nil)))
      (pss_cons (ps_if (pt_not (pt_val (pe_call (ok_can_split T) hr1' rfl T.m_can_split T.F_can_split.kp T.b_can_split .nil pass0 (pa_cons (pv 1) (pa_cons (pv 2) (pa_cons (pv 4) pa_nil)))))) (pss_one (ps_raise rfl rfl T.m_Wrong T.x_Wrong.exc raise1)) pss_nil)
      (pss_cons (ps_set (i := 5) sc_read_rests.nd rfl (Or.inl rfl) (pe_op op_shr (pv 1) (pv 4)))
      (pss_cons (ps_set (i := 6) sc_read_rests.nd rfl (Or.inl rfl) (pe_op op_sub (pv 5) (pv 2)))
      (pss_one (ps_for PassesOwn.leaving rfl (pi_range1 rfl T.z_range (pa_cons (pe_op op_shl pe_int (pv 4)) pa_nil)) (pg_name (i := 7) sc_read_rests.nd rfl (Or.inl rfl))
        (pss_cons (ps_expr (pe_call (ok_read_group T) hr rfl T.m_read_group T.F_read_group.kp T.b_read_group .nil passes1 (pa_cons (pv 0) (pa_cons (pv 6) (pa_cons (pv 3) pa_nil)))))
        (pss_one (ps_set (i := 6) sc_read_rests.nd rfl (Or.inl rfl) (pv 5))))))))), ?_⟩
    have hnn := hp.2.2
    have e62 : (2 : Int) ^ 62 = 4611686018427387904 := by decide
    obtain ⟨px, hx⟩ := hS.obj
    obtain ⟨sh, hIh⟩ := hI.hid s0
    unfold groupsS at k
    refine ⟨_, rfl, R.r, R.dr, _, rfl, hx, rfl, Wg.hid [R.r] H, R, 3, l, rfl, hid_same _ _, hIh, hS, by decide, k.seqL sh fun r l1 H1 er s1 st1 k1 => ?_⟩
    have hP1 := pr_hid hS hP s1
    have s01 := sh.trans s1
    have hr8 : r < 8 := u_lt er
    refine ⟨_, rfl, _, rfl, _, rfl, p.n, a.length, r, rfl, ⟨by omega, by omega⟩, _, rfl, ?_⟩
    cases hcs : canSplit p.n a.length r with
    | false =>
      rw [if_pos (Classical.byContradiction fun z => by rw [(split_cut _ _ _).mpr z] at hcs; cases hcs)] at k1
      exact iteT (k1 H1 s01)
    | true =>
      have hcs2 := (split_cut _ _ _).mp hcs
      rw [if_neg hcs2] at k1
      have h6 : r ≤ 6 := Nat.le_of_not_lt fun z => hcs2 (.inl z)
      have hmc : p.n % 2 ^ r = 0 ∧ a.length ≤ p.n / 2 ^ r := by
        have : Sound.mayCut p.n a.length r = true := by
          cases q : Sound.mayCut p.n a.length r with
          | true => rfl
          | false => exact absurd (.inr q) hcs2
        unfold Sound.mayCut at this
        rw [Bool.and_eq_true, beq_iff_eq, decide_eq_true_eq] at this
        exact this
      have hdiv : p.n / 2 ^ r * 2 ^ r = p.n := Nat.div_mul_cancel (Nat.dvd_of_mod_eq_zero hmc.1)
      have e64 : (2 : Nat) ^ 64 = 18446744073709551616 := by decide
      refine iteF ⟨_, rfl, _, rfl, _, _, rfl, rfl, (by omega), ?_⟩
      have e1 : ((p.n : Nat) : Int) / 2 ^ ((r : Nat) : Int).toNat = ((p.n / 2 ^ r : Nat) : Int) := by rw [Int.toNat_natCast]; simp
      dsimp only
      rw [e1]
      have h2r : 2 ^ r ≤ 64 := Nat.le_trans (Nat.pow_le_pow_right (by decide) h6) (by decide)
      have h2p : 0 < 2 ^ r := Nat.two_pow_pos r
      generalize hsz : p.n / 2 ^ r = sz at *
      refine ⟨_, rfl, _, rfl, _, _, rfl, rfl, ?_⟩
      dsimp only
      rw [show ((sz : Nat) : Int) - ((a.length : Nat) : Int) = ((sz - a.length : Nat) : Int) by omega]
      have e2 : (1 : Int) * 2 ^ ((r : Nat) : Int).toNat = ((2 ^ r : Nat) : Int) := by rw [Int.one_mul, Int.toNat_natCast]; simp
      refine ⟨_, rfl, _, _, rfl, rfl, ⟨by omega, by omega, by decide⟩, ((2 ^ r : Nat) : Int), (by show [V.int ((1 : Int) * 2 ^ ((r : Nat) : Int).toNat)] = _; rw [e2]), by omega, by omega, ?_⟩
      rw [Int.toNat_natCast]
      refine for_range (lo := 0) (n := 2 ^ r) (fun i σ H' => (∃ (ys1 : List Int) (l2 : Sound.Bits), Same H0 H' ∧ RdS A.c_BitReader H' R l2 ∧ PrS A H' p (.ref ga) ys1 ∧ ys1.length = (if i = 0 then a.length else i * sz) ∧ GotQ A H0 R (Sound.takeGroups p.wd p.z p.n a.length r a h p.may (2 ^ r - i) i ys1.reverse l2) (fun acc H' => PrS A H' p (.ref ga) acc.reverse → Q .non H') E) ∧
          ∃ v7 : Option V, σ = [some (.ref R.r), some (.int (p.n : Nat)), some (.int (a.length : Nat)), some (.ref p.x), some (.int (r : Nat)), some (.int (sz : Nat)), some (.int ((sz - (if i = 0 then a.length else 0) : Nat) : Int)), v7]) ⟨⟨ys, l1, s01, st1, hP1, by rw [if_pos rfl]; exact hyl, k1⟩, none, rfl⟩ ?_ ?_
      · rintro i σ H2 hi ⟨⟨ys1, l2, s2, st2, hP2, hl2, k2⟩, v7, rfl⟩
        rw [show 2 ^ r - i = (2 ^ r - (i + 1)) + 1 by omega, tg_succ, hsz] at k2
        have hroom : ys1.length + (sz - (if i = 0 then a.length else 0)) ≤ p.n ∧ a.length ≤ ys1.length ∧ ys1.length + (sz - (if i = 0 then a.length else 0)) = (i + 1) * sz := by
          have hm : (i + 1) * sz ≤ 2 ^ r * sz := Nat.mul_le_mul_right _ (by omega)
          have hc : 2 ^ r * sz = p.n := by rw [Nat.mul_comm]; exact hdiv
          by_cases h0 : i = 0
          · subst h0
            rw [if_pos rfl] at hl2 ⊢
            rw [Nat.zero_add, Nat.one_mul] at hm ⊢
            omega
          · rw [if_neg h0] at hl2 ⊢
            have : (i + 1) * sz = i * sz + sz := by rw [Nat.add_mul, Nat.one_mul]
            have h1 : sz ≤ i * sz := Nat.le_mul_of_pos_left sz (by omega)
            omega
        refine ⟨_, rfl, _, rfl, _, rfl, H0, R, p, ga, a, h, _, ys1, l2, rfl, s2, hI, hp, ⟨hGs.1, hGs.2.1, hroom.2.1⟩, st2, hP2, hroom.1, k2.seq fun xs l3 H3 exs s3 st3 k3 hP3 => ?_⟩
        have hxl := groupS_len exs
        rw [List.length_reverse] at hxl
        refine ⟨_, rfl, ⟨xs.reverse, l3, s3, st3, hP3, ?_, ?_⟩, some (.int (0 + (i : Nat))), ?_⟩
        · rw [List.length_reverse, hxl, if_neg (show ¬ i + 1 = 0 by omega)]; exact hroom.2.2
        · rw [List.reverse_reverse]; exact k3
        · rw [if_neg (show ¬ i + 1 = 0 by omega), Nat.sub_zero]; rfl
      · rintro σ H2 ⟨⟨ys1, l2, s2, st2, hP2, hl2, k2⟩, v7, rfl⟩
        rw [Nat.sub_self] at k2
        have k3 : PrS A H2 p (.ref ga) ys1.reverse.reverse → Q .non H2 := k2 H2 s2 st2
        rw [List.reverse_reverse] at k3
        exact k3 hP2
def guessedS (x z n : Nat) (may : Nat → Int → Bool) (kind : Nat) (l : Sound.Bits) : Sound.Got (List Int) :=
  if kind ≤ 6 then (if n < kind - 2 then .bad else (Sound.takeMany (numS x z may) (kind - 2) [] l).then_ fun (ys : List Int) (l : Sound.Bits) => groupsS x z n may (kind - 2) (Sound.FIXED.getD (kind - 2) []) 0 ys l)
  else if n < kind - 6 then .bad else (Sound.takeMany (numS x z may) (kind - 6) [] l).then_ fun (ys : List Int) (l : Sound.Bits) => (Sound.takeU 4 l).then_ fun (h : Nat) (l : Sound.Bits) => (Sound.takeMany (fun (_ : List Int) (l : Sound.Bits) => Sound.takeS 12 l) (kind - 6) [] l).then_ fun (a : List Int) (l : Sound.Bits) => groupsS x z n may (kind - 6) a.reverse h ys l
theorem fixed_len {p : Nat} (h : p ≤ 4) : (Sound.FIXED.getD p []).length = p ∧ Bd 2048 (Sound.FIXED.getD p []) := by
  have : ∀ p : Nat, p ≤ 4 → (Sound.FIXED.getD p []).length = p ∧ ∀ x ∈ Sound.FIXED.getD p [], -2048 ≤ x ∧ x ≤ 2048 := by decide
  exact this p h
theorem s_bd {n : Nat} {l : Sound.Bits} {x : Int} {r : Sound.Bits} (h : Sound.takeS n l = .ok x r) (h1 : 1 ≤ n) : Sound.fits n x = true := by
  unfold Sound.takeS at h
  split at h
  · cases h
  · rename_i hl
    have hlen : (l.take n).length = n := by
      rw [List.length_take]
      have : ¬ l.length < n := fun z => hl ((lacks_iff n l).mpr z)
      omega
    cases h
    generalize l.take n = m at *
    cases m with
    | nil => simp at hlen; omega
    | cons b m =>
      have v := value_lt m
      rw [List.length_cons] at hlen
      have hn : n - 1 = m.length := by omega
      unfold Sound.fits Sound.svalue
      rw [hn, value_cons]
      have e2 : (2 : Int) ^ (m.length + 1) = 2 * 2 ^ m.length := by rw [Int.pow_succ, Int.mul_comm]
      have ec : ((2 ^ m.length : Nat) : Int) = (2 : Int) ^ m.length := by simp
      cases b with
      | true =>
        simp only [List.head?_cons, if_true, List.length_cons, Nat.one_mul, e2]
        rw [Bool.and_eq_true, decide_eq_true_eq, decide_eq_true_eq, ← ec]
        omega
      | false =>
        simp only [List.head?_cons, Option.some.injEq, Bool.false_eq_true, if_false, Nat.zero_mul, Nat.zero_add]
        rw [Bool.and_eq_true, decide_eq_true_eq, decide_eq_true_eq, ← ec]
        omega
theorem s12_bd {l : Sound.Bits} {x : Int} {r : Sound.Bits} (h : Sound.takeS 12 l = .ok x r) : -2048 ≤ x ∧ x ≤ 2048 := by
  have := s_bd h (by decide)
  unfold Sound.fits at this
  rw [Bool.and_eq_true, decide_eq_true_eq, decide_eq_true_eq] at this
  have e : (2 : Int) ^ (12 - 1) = 2048 := by decide
  omega
theorem all_hid {H0 H : Hp} {R : Rdr} {p : Prt} (hI : RdI K H0 R) (hp : PrtI K A H0 p) (s : Same H0 H) : Same H0 (Wg.hid [R.r, p.x, p.t] H) ∧ RdI K (Wg.hid [R.r, p.x, p.t] H) R ∧ PrtI K A (Wg.hid [R.r, p.x, p.t] H) p := by
  have s1 : Same H0 (Wg.hid [R.r, p.x, p.t] H) := s.hid fun b hb => by
    rcases List.mem_cons.mp hb with rfl | hb
    · exact hI.2.1
    · rcases List.mem_cons.mp hb with rfl | hb
      · exact hp.1.1
      · rcases List.mem_cons.mp hb with rfl | hb
        · exact hp.1.2
        · cases hb
  exact ⟨s1, hI.same s1 (hid_in (by simp)), ⟨hid_in (by simp), hid_in (by simp)⟩, hp.2.1.same s1, hp.2.2⟩
theorem ptf_set (wd z pn g t g' : V) : putF "guess" g' (ptf wd z pn g t) = ptf wd z pn g' t := rfl
def spGuessed (K : PySem.W.Frag) (A : Adr) : Sp := fun vs H Q E => ∃ (H0 : Hp) (R : Rdr) (p : Prt) (kind : Nat) (l : Sound.Bits), vs = [.ref R.r, .int p.n, .int kind, .ref p.x] ∧ Same H0 H ∧ RdI K H0 R ∧ PrtI K A H0 p ∧ RdS A.c_BitReader H R l ∧ PrS A H p .non [] ∧ (2 ≤ kind ∧ kind ≤ 10) ∧
  GotQ A H0 R (guessedS p.wd p.z p.n p.may kind l) (fun acc H' => (∃ g, PrS A H' p g acc.reverse) → Q .non H') E
theorem sc_read_guessed : FnScope ["reader", "n", "kind", "part", "order", "shift", "place"] ["reader", "n", "kind", "part"] (defScope s_read_guessed) := ⟨rfl, rfl, rfl, by decide +kernel, rfl, by decide +kernel, by decide +kernel⟩
theorem new_hid {H1 : Hp} {R : Rdr} {p : Prt} {g : V} {ys : List Int} {l : Sound.Bits} {o : HO} (st : RdS A.c_BitReader H1 R l) (hP : PrS A H1 p g ys) (H2 : Hp) : Same (newOf H1 H2) (Wg.hid [R.r, p.x, p.t] (upd H2 p.x o)) := fun b u h => by
  obtain ⟨h1, h2⟩ := newOf_in h
  obtain ⟨i, hx⟩ := st.obj
  have n1 : b ≠ R.r := fun z => by rw [z, hx] at h1; cases h1
  have n2 : b ≠ p.x := fun z => by rw [z, hP.1] at h1; cases h1
  have n3 : b ≠ p.t := fun z => by rw [z, hP.2.1] at h1; cases h1
  rw [hid_out (by simp [n1, n2, n3]), upd_ne n2]
  exact h2
theorem rests_go {H0 H : Hp} {R : Rdr} {p : Prt} {ga : Addr} {a ys : List Int} {h : Nat} {l : Sound.Bits} {Qn : Hp → Prop} {E : XK} (hI : RdI K H0 R) (hp : PrtI K A H0 p) (s : Same H0 H) (st : RdS A.c_BitReader H R l) (hP : PrS A H p (.ref ga) ys) (hG : IsGuess K A.c_Guess (Wg.hid [R.r, p.x, p.t] H) ga a h) (hb : Bd 2048 a) (ha : ys.length = a.length ∧ a.length ≤ 4)
    (k : GotQ A H0 R (groupsS p.wd p.z p.n p.may a.length a h ys.reverse l) (fun acc H' => (∃ g, PrS A H' p g acc.reverse) → Qn H') E) : spRests K A [.ref R.r, .int p.n, .int (a.length : Nat), .ref p.x] H (fun v H' => Qn H') E := by
  obtain ⟨s1, hI1, hp1⟩ := all_hid hI hp s
  refine ⟨Wg.hid [R.r, p.x, p.t] H, R, p, ga, a, h, ys, l, rfl, hid_same _ _, hI1, hp1, ⟨hG, hb, by omega⟩, st, hP, ha, ?_⟩
  have k1 := k.low s1
  generalize groupsS p.wd p.z p.n p.may a.length a h ys.reverse l = g at *
  cases g with
  | ok x l => exact fun H' s' st' hq => k1 H' s' st' ⟨_, hq⟩
  | bad => exact k1
  | short => exact k1
theorem ok_read_guessed (T : Txt K mg A) : FnOk P w K mg base (CX1 P w) 8 A.f_read_guessed A.d_read_guessed ["reader", "n", "kind", "part"] (spGuessed K A) := by
  refine T.F_read_guessed.okE sc_read_guessed (fun vs H Q E h => ?_) (fun cdv Ar outer s H vs Q E hr h => ?_)
  · obtain ⟨H0, R, p, kind, l, rfl, _⟩ := h
    rfl
  · obtain ⟨H0, R, p, kind, l, rfl, s0, hI, hp, hS, hP, ⟨hk1, hk2⟩, k⟩ := h
    have hr1' : Room 1 _ := hr.mono (by decide)
    have hr2' : Room 2 _ := hr.mono (by decide)
    have hr3' : Room 3 _ := hr.mono (by decide)
    have hr4' : Room 4 _ := hr.mono (by decide)
    refine ⟨_, pss_cons (ps_set (i := 4) sc_read_guessed.nd rfl (Or.inl rfl) (pe_call (ok_order_of_kind T) hr1' rfl T.m_order_of_kind T.F_order_of_kind.kp T.b_order_of_kind .nil pass0 (pa_cons (pv 2) pa_nil)))
      (pss_cons (ps_if (pt_cmpR op_gt (pv 4) (pv 1) (nomark _)) (pss_one (ps_raise rfl rfl T.m_Wrong T.x_Wrong.exc raise1)) pss_nil)
      (pss_cons (ps_expr (pe_call (ok_read_plainly T) hr4' rfl T.m_read_plainly T.F_read_plainly.kp T.b_read_plainly .nil passes1 (pa_cons (pv 0) (pa_cons (pv 4) (pa_cons (pv 3) pa_nil)))))
      (pss_cons (ps_if (pt_cmpR op_lt (pv 2) (pe_gi rfl T.g_FIRST_LINEAR) (nomark _)) (pss_one (ps_fld (pv 3) (pe_call (ok_fixed_guess T) hr3' rfl T.m_fixed_guess T.F_fixed_guess.kp T.b_fixed_guess .nil pass0 (pa_cons (pv 4) pa_nil)) rfl))
        (pss_cons (ps_set (i := 5) sc_read_guessed.nd rfl (Or.inl rfl) (pe_meth (pv 0) T.l_BitReader T.e_BitReader_unsigned (ok_BitReader_unsigned T) hr1' T.b_BitReader_unsigned .nil passes1 (pa_cons pe_int pa_nil)))
        (pss_one (ps_fld (pv 3) (pe_make T.k_Guess (ok_Guess_init T) hr2' rfl T.m_Guess T.b_Guess_init .nil pass0 (pa_cons (pe_lcE (own := [("place", 6)]) rfl rfl rfl air1 rfl sc_read_guessed.nd (pi_range1 rfl T.z_range (pa_cons (pv 4) pa_nil)) (blkOk_by (by kernel_rfl)) (fun _ _ _ _ _ _ => pg_name (i := 6) sc_read_guessed.nd rfl (Or.inl rfl)) (fun _ _ _ _ _ _ => pts_nil)
          (fun _ _ _ _ _ _ hp => pe_meth (pv 0) T.l_BitReader T.e_BitReader_signed (ok_BitReader_signed T) hr2' T.b_BitReader_signed .nil hp (pa_cons (pe_gi rfl T.g_FACTOR_WIDTH) pa_nil))) (pa_cons (pv 5) pa_nil))) rfl))))
      (pss_one (ps_expr (pe_call (ok_read_rests T) hr rfl T.m_read_rests T.F_read_rests.kp T.b_read_rests .nil passes1 (pa_cons (pv 0) (pa_cons (pv 1) (pa_cons (pv 4) (pa_cons (pv 3) pa_nil)))))))))), ?_⟩
    have hnn := hp.2.2
    have e62 : (2 : Int) ^ 62 = 4611686018427387904 := by decide
    refine ⟨_, rfl, kind, rfl, ⟨hk1, hk2⟩, ?_⟩
    generalize ho : (if kind ≤ 6 then kind - 2 else kind - 6) = o at *
    have ho4 : o ≤ 4 := by rw [← ho]; split <;> omega
    refine ⟨_, rfl, _, rfl, _, _, rfl, rfl, _, rfl, ?_⟩
    unfold guessedS at k
    refine ite2 (fun hc => ?_) fun hc => ?_
    · have hc : ((p.n : Nat) : Int) < ((o : Nat) : Int) := of_decide_eq_true hc
      by_cases h6 : kind ≤ 6
      · rw [if_pos h6] at k ho
        rw [if_pos (by omega)] at k
        exact k H s0
      · rw [if_neg h6] at k ho
        rw [if_pos (by omega)] at k
        exact k H s0
    · have hc : ¬ ((p.n : Nat) : Int) < ((o : Nat) : Int) := fun z => hc (decide_eq_true z)
      by_cases h6 : kind ≤ 6
      · rw [if_pos h6] at k ho
        rw [if_neg (by omega), ho] at k
        refine ⟨_, rfl, _, rfl, _, rfl, H0, R, p, .non, o, [], l, rfl, s0, hI, hp, hS, hP, (by show 0 + o ≤ _; omega), k.seq fun ys l1 H1 ey s1 st1 k1 hP1 => ?_⟩
        have hyl := many_len ey
        have hyl : ys.length = o := by rw [hyl]; show 0 + o = o; omega
        refine ⟨_, rfl, _, _, rfl, rfl, _, rfl, ?_⟩
        rw [decide_eq_true (show ((kind : Nat) : Int) < 7 by omega)]
        refine iteT ⟨_, rfl, o, rfl, ho4, fun ga H2 hga s2 hG => ?_⟩
        have hx2 := s2 _ _ hP1.1
        refine ⟨_, rfl, p.x, A.c_PartTaken, p.dx, _, rfl, hx2, T.l_PartTaken, T.n_PartTaken_guess, (by show 5 < 1000; decide), ?_⟩
        rw [ptf_set]
        have htx := hP1.ne
        have hP3 : PrS A (upd H2 p.x (.ins A.c_PartTaken p.dx (ptf (.int p.wd) (.int p.z) p.pn (.ref ga) (.ref p.t)))) p (.ref ga) ys.reverse := ⟨upd_same, by rw [upd_ne htx]; exact s2 _ _ hP1.2.1, hP1.2.2⟩
        have s3 : Same H0 (upd H2 p.x (.ins A.c_PartTaken p.dx (ptf (.int p.wd) (.int p.z) p.pn (.ref ga) (.ref p.t)))) := same_keep (s1.trans s2) hp.1.1
        have st3 : RdS A.c_BitReader (upd H2 p.x (.ins A.c_PartTaken p.dx (ptf (.int p.wd) (.int p.z) p.pn (.ref ga) (.ref p.t)))) R l1 := by
          have n1 := rd_ne st1 hP1
          obtain ⟨i, ei, hi, hxr⟩ := st1
          exact ⟨i, ei, hi, by rw [upd_ne (fun z => n1 (by rw [z]; simp))]; exact s2 _ _ hxr⟩
        have hG3 := hG.same (new_hid (o := .ins A.c_PartTaken p.dx (ptf (.int p.wd) (.int p.z) p.pn (.ref ga) (.ref p.t))) st1 hP1 H2)
        obtain ⟨fl, fb⟩ := fixed_len ho4
        have := rests_go (Qn := fun H' => Q .non H') hI hp s3 st3 hP3 hG3 fb ⟨by rw [List.length_reverse, fl, hyl], by omega⟩ (by rw [List.reverse_reverse, fl]; exact k1)
        rw [fl] at this
        exact ⟨_, rfl, _, rfl, _, rfl, _, rfl, this⟩
      · rw [if_neg h6] at k ho
        rw [if_neg (by omega), ho] at k
        refine ⟨_, rfl, _, rfl, _, rfl, H0, R, p, .non, o, [], l, rfl, s0, hI, hp, hS, hP, (by show 0 + o ≤ _; omega), k.seq fun ys l1 H1 ey s1 st1 k1 hP1 => ?_⟩
        have hyl := many_len ey
        have hyl : ys.length = o := by rw [hyl]; show 0 + o = o; omega
        refine ⟨_, rfl, _, _, rfl, rfl, _, rfl, ?_⟩
        rw [decide_eq_false (show ¬ ((kind : Nat) : Int) < 7 by omega)]
        obtain ⟨px, hx⟩ := st1.obj
        obtain ⟨sh, hIh⟩ := hI.hid s1
        refine iteF ⟨_, rfl, R.r, R.dr, _, rfl, hx, rfl, Wg.hid [R.r] H1, R, 4, l1, rfl, hid_same _ _, hIh, st1, by decide, k1.seqL sh fun hh l2 H2 _ s2 st2 k2 => ?_⟩
        have hP2 := pr_hid st1 hP1 s2
        have s02 := sh.trans s2
        refine ⟨_, rfl, ((o : Nat) : Int), rfl, by omega, by omega, fun D hD => ?_⟩
        rw [Int.toNat_natCast]
        have hD0 : H0 D = none := s02.none hD
        refine lc_st o (by rw [sizeLine_eq]; omega) (fun i acc H' => ∃ (as : List Int) (l' : Sound.Bits), acc = as.reverse.map V.int ∧ Same (Wg.hid [R.r] H2) H' ∧ RdS A.c_BitReader H' R l' ∧ as.length = i ∧ Bd 2048 as ∧ GotQ A H0 R ((Sound.takeMany (fun (_ : List Int) (l : Sound.Bits) => Sound.takeS 12 l) (o - i) as l').then_ fun (a : List Int) (l : Sound.Bits) => groupsS p.wd p.z p.n p.may o a.reverse hh ys l) (fun acc H' => (∃ g, PrS A H' p g acc.reverse) → Q .non H') E) ?_ ?_ ?_ ?_ ?_
        · refine ⟨[], l2, rfl, fun b u e => ?_, ?_, rfl, (fun x hx => by cases hx), k2⟩
          · have := hid_same _ _ b u e
            rw [upd_ne (ne_of_none this hD)]; exact this
          · obtain ⟨i, ei, hi, hxr⟩ := st2
            exact ⟨i, ei, hi, by rw [upd_ne (ne_of_none hxr hD)]; exact hxr⟩
        · exact fun i acc H' hi _ => hi
        · exact fun acc H' _ => Nat.le_refl _
        · rintro i acc H3 x H3' hi ⟨as, l3, rfl, s3, st3, hl3, hb3, k3⟩ hDx hal ⟨hH3, rfl⟩ C hC
          rw [hH3]
          obtain ⟨px3, hx3⟩ := st3.obj
          rw [show o - i = (o - (i + 1)) + 1 by omega, many_succ, then_assoc] at k3
          obtain ⟨sh2, _⟩ := hI.hid s02
          obtain ⟨sh3, hIh3⟩ := hI.hid (sh2.trans s3)
          refine ⟨rfl, _, rfl, R.r, R.dr, _, rfl, hx3, rfl, Wg.hid [R.r] H3, R, 12, l3, rfl, hid_same _ _, hIh3, st3, by decide, k3.seqL sh3 fun y l4 H4 ey4 s4 st4 k4 => ?_⟩
          have nDr : D ≠ R.r := fun z => by rw [z, hx3] at hDx; cases hDx
          refine hC _ H4 (s4 _ _ (by rw [hid_out (by simpa using nDr)]; exact hDx)) ⟨y :: as, l4, by simp, ?_, ?_, by rw [List.length_cons, hl3], ?_, k4⟩
          · intro b u e
            have e3 := s3 b u e
            by_cases hb : b = D
            · subst hb
              have := hid_same _ _ _ u e
              rw [hD] at this; cases this
            · rw [upd_ne hb]
              refine s4 _ _ ?_
              rw [hid_out (fun z => by
                rw [List.mem_singleton.mp z, hid_in (by simp)] at e; cases e)]
              exact e3
          · obtain ⟨j, ej, hj, hxr⟩ := st4
            exact ⟨j, ej, hj, by rw [upd_ne (Ne.symm nDr)]; exact hxr⟩
          · intro z hz
            rcases List.mem_cons.mp hz with rfl | hz
            · exact s12_bd ey4
            · exact hb3 z hz
        · rintro acc H3 ⟨as, l3, rfl, s3, st3, hl3, hb3, k3⟩ hDx hal
          rw [Nat.sub_self] at k3
          have k3 : GotQ A H0 R (groupsS p.wd p.z p.n p.may o as.reverse hh ys l3) (fun acc H' => (∃ g, PrS A H' p g acc.reverse) → Q .non H') E := k3
          obtain ⟨sh2, _⟩ := hI.hid s02
          have s03 := sh2.trans s3
          have hP3 := pr_hid st2 hP2 s3
          refine ⟨_, rfl, fun ga dga hga hdga hne => ⟨ga, dga, _, _, rfl, upd_same, rfl, ?_⟩⟩
          rw [upd_made]
          have s4 : Same H3 (upd (upd H3 dga (.own ga)) ga (.ins A.c_Guess dga (gf (.ref D) (.int (hh : Nat))))) := same_made hga hdga
          have hG4 : upd (upd H3 dga (.own ga)) ga (.ins A.c_Guess dga (gf (.ref D) (.int (hh : Nat)))) ga = some (.ins A.c_Guess dga (gf (.ref D) (.int (hh : Nat)))) := upd_same
          have hD4 := s4 _ _ hDx
          generalize upd (upd H3 dga (.own ga)) ga (.ins A.c_Guess dga (gf (.ref D) (.int (hh : Nat)))) = H4 at *
          have hx4 := s4 _ _ hP3.1
          refine ⟨_, rfl, p.x, A.c_PartTaken, p.dx, _, rfl, hx4, T.l_PartTaken, T.n_PartTaken_guess, (by show 5 < 1000; decide), ?_⟩
          rw [ptf_set]
          have htx := hP3.ne
          have n1 := rd_ne st3 hP3
          obtain ⟨jr, ejr, hjr, hxr⟩ := id st3
          have gx : ga ≠ p.x := fun z => by rw [z, hP3.1] at hga; cases hga
          have gt : ga ≠ p.t := fun z => by rw [z, hP3.2.1] at hga; cases hga
          have gr : ga ≠ R.r := fun z => by rw [z, hxr] at hga; cases hga
          have Dx : D ≠ p.x := fun z => by rw [z, hP3.1] at hDx; cases hDx
          have Dr : D ≠ R.r := fun z => by rw [z, hxr] at hDx; cases hDx
          have Dt : D ≠ p.t := fun z => by
            have := hP2.2.1
            rw [← z, hD] at this; cases this
          have hP5 : PrS A (upd H4 p.x (.ins A.c_PartTaken p.dx (ptf (.int p.wd) (.int p.z) p.pn (.ref ga) (.ref p.t)))) p (.ref ga) ys.reverse := ⟨upd_same, by rw [upd_ne htx]; exact s4 _ _ hP3.2.1, hP3.2.2⟩
          have s5 : Same H0 (upd H4 p.x (.ins A.c_PartTaken p.dx (ptf (.int p.wd) (.int p.z) p.pn (.ref ga) (.ref p.t)))) := same_keep (s03.trans s4) hp.1.1
          have st5 : RdS A.c_BitReader (upd H4 p.x (.ins A.c_PartTaken p.dx (ptf (.int p.wd) (.int p.z) p.pn (.ref ga) (.ref p.t)))) R l3 := ⟨jr, ejr, hjr, by rw [upd_ne (fun z => n1 (by rw [z]; simp))]; exact s4 _ _ hxr⟩
          have hG5 : IsGuess K A.c_Guess (Wg.hid [R.r, p.x, p.t] (upd H4 p.x (.ins A.c_PartTaken p.dx (ptf (.int p.wd) (.int p.z) p.pn (.ref ga) (.ref p.t))))) ga as.reverse hh := by
            refine ⟨dga, D, ?_, SqL.of ?_⟩
            · rw [hid_out (by simp [gr, gx, gt]), upd_ne gx]; exact hG4
            · rw [hid_out (by simp [Dr, Dx, Dt]), upd_ne Dx]; exact hD4
          have hal2 : as.reverse.length = o := by rw [List.length_reverse, hl3]
          have := rests_go (Qn := fun H' => Q .non H') hI hp s5 st5 hP5 hG5 (fun z hz => hb3 z (List.mem_reverse.mp hz)) ⟨by rw [List.length_reverse, hal2, hyl], by omega⟩ (by rw [List.reverse_reverse, hal2]; exact k3)
          rw [hal2] at this
          exact ⟨_, rfl, _, rfl, _, rfl, _, rfl, this⟩
def zerosS (w : Nat) (l : Sound.Bits) : Sound.Got Nat := (Sound.takeU 1 l).then_ fun (fl : Nat) (l : Sound.Bits) => if fl = 0 then Sound.Got.ok 0 l else (Sound.takeRun (w - 1) 0 l).then_ fun (q : Nat) (l : Sound.Bits) => .ok (q + 1) l
def kindS (x n : Nat) (may : Nat → Int → Bool) (z kind : Nat) (l : Sound.Bits) : Sound.Got (List Int) :=
  if kind = 0 then (Sound.takeS x l).then_ fun (y : Int) (l : Sound.Bits) => if ((List.range n).all fun (i : Nat) => may i (y * 2 ^ z)) = true then .ok (List.replicate n y) l else .bad
  else if kind = 1 then Sound.takeMany (numS x z may) n [] l else if 10 < kind then .bad else guessedS x z n may kind l
theorem part_is (w n : Nat) (may : Nat → Int → Bool) (l : Sound.Bits) : Sound.takePart w n may l = (zerosS w l).then_ fun (z : Nat) (l : Sound.Bits) => (Sound.takeU 4 l).then_ fun (kind : Nat) (l : Sound.Bits) => (kindS (w - z) n may z kind l).then_ fun (ys : List Int) (l : Sound.Bits) => .ok (ys.reverse.map fun (y : Int) => y * 2 ^ z) l := by
  unfold Sound.takePart zerosS
  rw [then_assoc]
  congr 1
  funext fl l
  congr 1
  funext z l
  congr 1
  funext kind l
  unfold kindS
  by_cases h0 : kind = 0
  · rw [if_pos h0, if_pos h0]
  · rw [if_neg h0, if_neg h0]
    by_cases h1 : kind = 1
    · rw [if_pos h1, if_pos h1]; rfl
    · rw [if_neg h1, if_neg h1]
      by_cases h6 : kind ≤ 6
      · rw [if_pos h6, if_neg (show ¬ 10 < kind by omega)]
        unfold guessedS
        rw [if_pos h6]
        by_cases hn : n < kind - 2
        · rw [if_pos hn, if_pos hn]; rfl
        · rw [if_neg hn, if_neg hn]; rfl
      · rw [if_neg h6]
        by_cases h10 : 10 < kind
        · rw [if_pos (.inl h10), if_pos h10]; rfl
        · rw [if_neg h10]
          unfold guessedS
          rw [if_neg h6]
          by_cases hn : n < kind - 6
          · rw [if_pos (.inr hn), if_pos hn]; rfl
          · rw [if_neg (fun z => z.elim h10 hn), if_neg hn]; rfl
theorem run_most {m : Nat} : ∀ {l : Sound.Bits} {q x : Nat} {r : Sound.Bits}, Sound.takeRun m q l = .ok x r → q < m → x < m
  | [], q, x, r, h, hq => by unfold Sound.takeRun at h; cases h
  | true :: l, q, x, r, h, hq => by unfold Sound.takeRun at h; cases h; exact hq
  | false :: l, q, x, r, h, hq => by
    have e : Sound.takeRun m q (false :: l) = if m ≤ q + 1 then .bad else Sound.takeRun m (q + 1) l := rfl
    rw [e] at h
    split at h
    · cases h
    · exact run_most h (by omega)
theorem zeros_lt {w : Nat} {l : Sound.Bits} {z : Nat} {r : Sound.Bits} (h : zerosS w l = .ok z r) (hw : 2 ≤ w) : z < w := by
  unfold zerosS at h
  cases e1 : Sound.takeU 1 l with
  | ok fl l1 =>
    rw [e1] at h
    have h : (if fl = 0 then Sound.Got.ok 0 l1 else (Sound.takeRun (w - 1) 0 l1).then_ fun (q : Nat) (l : Sound.Bits) => .ok (q + 1) l) = .ok z r := h
    split at h
    · cases h; omega
    · cases e2 : Sound.takeRun (w - 1) 0 l1 with
      | ok q l2 =>
        rw [e2] at h
        cases h
        have := run_most e2 (by omega)
        omega
      | bad => rw [e2] at h; cases h
      | short => rw [e2] at h; cases h
  | bad => rw [e1] at h; cases h
  | short => rw [e1] at h; cases h
theorem tg_len {w z n p r : Nat} {a : List Int} {h : Nat} {may : Nat → Int → Bool} : ∀ {k i : Nat} {ys xs : List Int} {l l' : Sound.Bits}, Sound.takeGroups w z n p r a h may k i ys l = .ok xs l' → xs.length ≤ ys.length + k * n
  | 0, i, ys, xs, l, l', e => by unfold Sound.takeGroups at e; cases e; omega
  | k + 1, i, ys, xs, l, l', e => by
    rw [tg_succ] at e
    cases e1 : groupS w z may a h (n / 2 ^ r - (if i = 0 then p else 0)) ys l with
    | ok ys1 l1 =>
      rw [e1] at e
      have h1 := groupS_len e1
      have h2 := tg_len (show Sound.takeGroups w z n p r a h may k (i + 1) ys1 l1 = .ok xs l' from e)
      have h3 : n / 2 ^ r ≤ n := Nat.div_le_self _ _
      rw [Nat.add_mul, Nat.one_mul]
      omega
    | bad => rw [e1] at e; cases e
    | short => rw [e1] at e; cases e
theorem groups_len {w z n : Nat} {may : Nat → Int → Bool} {p : Nat} {a : List Int} {h : Nat} {ys xs : List Int} {l l' : Sound.Bits} (e : groupsS w z n may p a h ys l = .ok xs l') : xs.length ≤ ys.length + 64 * n := by
  unfold groupsS at e
  cases e1 : Sound.takeU 3 l with
  | ok r l1 =>
    rw [e1] at e
    have e : (if 6 < r ∨ Sound.mayCut n p r = false then (.bad : Sound.Got (List Int)) else Sound.takeGroups w z n p r a h may (2 ^ r) 0 ys l1) = .ok xs l' := e
    split at e
    · cases e
    · rename_i hr
      have h1 := tg_len e
      have h2 : 2 ^ r ≤ 64 := Nat.le_trans (Nat.pow_le_pow_right (by decide) (show r ≤ 6 from Nat.le_of_not_lt fun z => hr (.inl z))) (by decide)
      have h3 := Nat.mul_le_mul_right n h2
      omega
  | bad => rw [e1] at e; cases e
  | short => rw [e1] at e; cases e
theorem guessed_len {x z n : Nat} {may : Nat → Int → Bool} {kind : Nat} {l l' : Sound.Bits} {xs : List Int} (e : guessedS x z n may kind l = .ok xs l') (hn : n ≤ 256) : xs.length ≤ 100000 := by
  have go : ∀ {o : Nat} {f : List Int → Sound.Bits → Sound.Got (List Int)}, (∀ ys l, f ys l = .ok xs l' → xs.length ≤ ys.length + 64 * n) → o ≤ n → (Sound.takeMany (numS x z may) o [] l).then_ f = .ok xs l' → xs.length ≤ 100000 := fun {o f} hf ho e => by
    cases e1 : Sound.takeMany (numS x z may) o [] l with
    | ok ys l1 =>
      rw [e1] at e
      have h1 := many_len e1
      have h2 := hf ys l1 e
      have h1 : ys.length = 0 + o := h1
      omega
    | bad => rw [e1] at e; cases e
    | short => rw [e1] at e; cases e
  unfold guessedS at e
  split at e
  · split at e
    · cases e
    · rename_i h
      exact go (fun ys l h => groups_len h) (by omega) e
  · split at e
    · cases e
    · rename_i h
      refine go (fun ys l h => ?_) (by omega) e
      cases e1 : Sound.takeU 4 l with
      | ok hh l1 =>
        rw [e1] at h
        have h : ((Sound.takeMany (fun (_ : List Int) (l : Sound.Bits) => Sound.takeS 12 l) (kind - 6) [] l1).then_ fun (a : List Int) (l : Sound.Bits) => groupsS x z n may (kind - 6) a.reverse hh ys l) = .ok xs l' := h
        cases e2 : Sound.takeMany (fun (_ : List Int) (l : Sound.Bits) => Sound.takeS 12 l) (kind - 6) [] l1 with
        | ok a l2 =>
          rw [e2] at h
          exact groups_len h
        | bad => rw [e2] at h; cases h
        | short => rw [e2] at h; cases h
      | bad => rw [e1] at h; cases h
      | short => rw [e1] at h; cases h
def spPart (K : PySem.W.Frag) (A : Adr) : Sp := fun vs H Q E => ∃ (H0 : Hp) (R : Rdr) (wd n : Nat) (pn : V) (may : Nat → Int → Bool) (l : Sound.Bits), vs = [.ref R.r, .int n, .int wd, pn] ∧ Same H0 H ∧ RdI K H0 R ∧ MayI K A H0 pn n may ∧ RdS A.c_BitReader H R l ∧ (2 ≤ wd ∧ wd ≤ 25 ∧ n ≤ 256) ∧
  GotQ A H0 R (Sound.takePart wd n may l) (fun ys H' => ∀ D, H0 D = none → H' D = some (.lst (ys.map V.int)) → Q (.ref D) H') E
theorem sc_read_part : FnScope ["reader", "n", "width", "partner", "part", "kind", "number", "place"] ["reader", "n", "width", "partner"] (defScope s_read_part) := ⟨rfl, rfl, rfl, by decide +kernel, rfl, by decide +kernel, by decide +kernel⟩
theorem range_all_iff {n : Nat} {f : Nat → Bool} : ((List.range n).all f) = true ↔ ∀ i, i < n → f i = true := by
  rw [List.all_eq_true]
  exact ⟨fun h i hi => h i (List.mem_range.mpr hi), fun h i hi => h i (List.mem_range.mp hi)⟩
theorem ok_read_part (T : Txt K mg A) : FnOk P w K mg base (CX1 P w) 9 A.f_read_part A.d_read_part ["reader", "n", "width", "partner"] (spPart K A) := by
  refine T.F_read_part.okE sc_read_part (fun vs H Q E h => ?_) (fun cdv Ar outer s H vs Q E hr h => ?_)
  · obtain ⟨H0, R, wd, n, pn, may, l, rfl, _⟩ := h
    rfl
  · obtain ⟨H0, R, wd, n, pn, may, l, rfl, s0, hI, hM, hS, ⟨hw1, hw2, hn⟩, k⟩ := h
    have hr1' : Room 1 _ := hr.mono (by decide)
    have hr2' : Room 2 _ := hr.mono (by decide)
    have hr3' : Room 3 _ := hr.mono (by decide)
    have hr4' : Room 4 _ := hr.mono (by decide)
    refine ⟨_, pss_cons (ps_set (i := 4) sc_read_part.nd rfl (Or.inr rfl) (pe_make T.k_PartTaken (ok_PartTaken_init T) hr2' rfl T.m_PartTaken T.b_PartTaken_init .nil pass0 (pa_cons (pv 2) (pa_cons (pe_call (ok_read_zeros T) hr3' rfl T.m_read_zeros T.F_read_zeros.kp T.b_read_zeros .nil passes1 (pa_cons (pv 0) (pa_cons (pv 2) pa_nil))) (pa_cons (pv 3) pa_nil)))))
      (pss_cons (ps_set (i := 5) sc_read_part.nd rfl (Or.inl rfl) (pe_meth (pv 0) T.l_BitReader T.e_BitReader_unsigned (ok_BitReader_unsigned T) hr1' T.b_BitReader_unsigned .nil passes1 (pa_cons pe_int pa_nil)))
      (pss_cons (ps_if (pt_cmpR op_gt (pv 5) (pe_gi rfl T.g_LAST_KIND) (nomark _)) (pss_one (ps_raise rfl rfl T.m_Wrong T.x_Wrong.exc raise1)) pss_nil)
      (pss_cons (ps_if (pt_cmpR op_eq (pv 5) (pe_gi rfl T.g_SAME) (nomark _))
        (pss_cons (ps_set (i := 6) sc_read_part.nd rfl (Or.inl rfl) (pe_meth (pv 0) T.l_BitReader T.e_BitReader_signed (ok_BitReader_signed T) hr2' T.b_BitReader_signed .nil passes1 (pa_cons (pe_fld (pv 4) rfl) pa_nil)))
        (pss_one (ps_for PassesOwn.leaving rfl (pi_range1 rfl T.z_range (pa_cons (pv 1) pa_nil)) (pg_name (i := 7) sc_read_part.nd rfl (Or.inl rfl)) (pss_one (ps_expr (pe_meth (pv 4) T.l_PartTaken T.e_PartTaken_take (ok_PartTaken_take T) hr3' T.b_PartTaken_take .nil passes1 (pa_cons (pv 6) pa_nil)))))))
        (pss_one (ps_if (pt_cmpR op_eq (pv 5) (pe_gi rfl T.g_PLAIN_KIND) (nomark _)) (pss_one (ps_expr (pe_call (ok_read_plainly T) hr4' rfl T.m_read_plainly T.F_read_plainly.kp T.b_read_plainly .nil passes1 (pa_cons (pv 0) (pa_cons (pv 1) (pa_cons (pv 4) pa_nil))))))
          (pss_one (ps_expr (pe_call (ok_read_guessed T) hr rfl T.m_read_guessed T.F_read_guessed.kp T.b_read_guessed .nil passes1 (pa_cons (pv 0) (pa_cons (pv 1) (pa_cons (pv 5) (pa_cons (pv 4) pa_nil))))))))))
      (pss_one (ps_ret (pe_lc (own := [("number", 6)]) rfl sc_read_part.nd (pi_list (pe_fld (pv 4) rfl)) (blkOk_by (by kernel_rfl)) (fun _ _ _ _ _ => pg_name (i := 6) sc_read_part.nd rfl (Or.inl rfl)) (fun _ _ _ _ _ => pts_nil) (fun _ _ _ _ _ => pe_op op_shl (pv 6) (pfldK (K := K) rfl (pv 4) rfl)))))))), ?_⟩
    have e62 : (2 : Int) ^ 62 = 4611686018427387904 := by decide
    rw [part_is] at k
    refine ⟨_, rfl, _, rfl, _, rfl, H0, R, wd, l, rfl, s0, hI, hS, hw1, k.seq fun z l1 H1 ez s1 st1 k1 => ⟨_, rfl, fun x dx hx hdx hne => ?_⟩⟩
    have hzw := zeros_lt ez hw1
    refine ⟨x, dx, _, _, _, rfl, upd_same, fun t H2 ht hk hx2 ht2 => ⟨rfl, ?_⟩⟩
    have sm := same_made (o := .own x) (u := .ins A.c_PartTaken dx []) hx hdx
    have s12 : Same H1 H2 := fun b o e => hk b o (sm b o e) (ne_of_none e hx)
    have s2 := s1.trans s12
    have ht1 : H1 t = none := sm.none ht
    rw [show ((wd : Nat) : Int) - ((z : Nat) : Int) = ((wd - z : Nat) : Int) by omega] at hx2
    obtain ⟨p, hpx, hpd, hpt, hpw, hpz, hpn, hpp, hpm⟩ : ∃ p : Prt, p.x = x ∧ p.dx = dx ∧ p.t = t ∧ p.wd = wd - z ∧ p.z = z ∧ p.n = n ∧ p.pn = pn ∧ p.may = may := ⟨⟨x, dx, t, wd - z, z, n, pn, may⟩, rfl, rfl, rfl, rfl, rfl, rfl, rfl, rfl⟩
    have hP2 : PrS A H2 p .non [] := ⟨by rw [hpx, hpd, hpw, hpz, hpp, hpt]; exact hx2, by rw [hpt]; exact ht2, fun y hy => by cases hy⟩
    have hp : PrtI K A H0 p := ⟨⟨by rw [hpx]; exact s1.none hx, by rw [hpt]; exact s1.none ht1⟩, by rw [hpp, hpn, hpm]; exact hM, by omega⟩
    have st2 : RdS A.c_BitReader H2 R l1 := by
      obtain ⟨i, ei, hi, hxr⟩ := st1
      exact ⟨i, ei, hi, s12 _ _ hxr⟩
    clear hx2 ht2 hk sm
    subst hpx hpd hpt hpz hpn hpp hpm
    rw [← hpw] at k1
    obtain ⟨px, hxr⟩ := st2.obj
    obtain ⟨sh, hIh⟩ := hI.hid s2
    refine ⟨_, rfl, R.r, R.dr, _, rfl, hxr, rfl, Wg.hid [R.r] H2, R, 4, l1, rfl, hid_same _ _, hIh, st2, by decide, k1.seqL sh fun kind l2 H3 _ s3 st3 k3 => ?_⟩
    have hP3 := pr_hid st2 hP2 s3
    have s03 := sh.trans s3
    have fin : ∀ (v6 v7 : Option V) (H' : Hp) (acc : List Int) (g : V) (l' : Sound.Bits), Same H0 H' → RdS A.c_BitReader H' R l' → PrS A H' p g acc.reverse → acc.length ≤ 100000 → GotQ A H0 R (.ok (acc.reverse.map fun (y : Int) => y * 2 ^ p.z) l' : Sound.Got (List Int)) (fun ys H' => ∀ D, H0 D = none → H' D = some (.lst (ys.map V.int)) → Q (.ref D) H') E →
        tRet (tLc (iList K (tFld K (tVar 4) "taken")) (gName 6) tYes (tOp (rI CPow fun i j => .int (i * 2 ^ j.toNat)) (tVar 6) (tFld K (tVar 4) "z")) [6]) { nx := fun x H' => Q V.non H', rt := Q } [some (.ref R.r), some (.int (p.n : Nat)), some (.int (wd : Nat)), some p.pn, some (.ref p.x), some (.int (kind : Nat)), v6, v7] H' := fun v6 v7 H' acc g l' sF stF hPF hal kF => by
      refine ⟨_, rfl, p.x, A.c_PartTaken, p.dx, _, _, rfl, hPF.1, T.l_PartTaken, T.n_PartTaken_taken, rfl, p.t, rfl, ⟨_, SqL.of hPF.2.1⟩, fun D hD => ?_⟩
      refine lc_val (J := Itl K p.t) hD acc.reverse.length (by rw [List.length_reverse, sizeLine_eq]; omega) (fun i => .int (acc.reverse.getD i 0 * 2 ^ p.z)) (fun i Hh hi t1 => ⟨_, _, t1.seq (SqL.of hPF.2.1), int_get hi⟩) (fun Hh t1 => ⟨_, t1.seq (SqL.of hPF.2.1), by rw [List.length_map]; exact Nat.le_refl _⟩) ?_ ?_
      · rintro i Hh y H5 hi t1 ⟨rfl, hy⟩ C hC
        obtain ⟨rfl, _⟩ := map_int_get (hy _ (t1.seq (SqL.of hPF.2.1)))
        have hyf := hPF.2.2 (acc.reverse.getD i 0) (by rw [List.getD_eq_getElem?_getD, List.getElem?_eq_getElem hi]; exact List.getElem_mem hi)
        have hpb := hp.2.2
        exact ⟨rfl, _, rfl, _, rfl, p.x, A.c_PartTaken, p.dx, _, _, rfl, t1 _ _ hPF.1, T.l_PartTaken, T.n_PartTaken_z, rfl, _, _, rfl, rfl, ⟨by omega, by omega, fits_abs hyf hpb.2.1⟩, hC _ (Same.refl _)⟩
      · intro H5 s5 hx5
        have st5 : RdS A.c_BitReader H5 R l' := by
          obtain ⟨i, ei, hi, hxr⟩ := stF
          exact ⟨i, ei, hi, s5 _ _ hxr⟩
        refine kF H5 (sF.trans s5) st5 D (sF.none hD) (hx5.trans ?_)
        congr 2
        rw [List.map_map]
        refine List.ext_getElem (by simp) fun i h1 h2 => ?_
        simp at h2
        simp [List.getD_eq_getElem?_getD, List.getElem?_eq_getElem (show i < acc.reverse.length by rw [List.length_reverse]; exact h2)]
    refine ⟨_, rfl, _, _, rfl, rfl, _, rfl, ?_⟩
    unfold kindS at k3
    have hpb := hp.2.2
    refine ite2 (fun hc => ?_) fun hc10 => ?_
    · have hc : (10 : Int) < ((kind : Nat) : Int) := of_decide_eq_true hc
      rw [if_neg (by omega), if_neg (by omega), if_pos (by omega)] at k3
      exact k3 H3 s03
    · have hc10 : ¬ (10 : Int) < ((kind : Nat) : Int) := fun z => hc10 (decide_eq_true z)
      refine ⟨_, rfl, rfl, _, rfl, ?_⟩
      have e0 := eq_nat kind 0
      refine ite2 (fun hc0 => ?_) fun hc0 => ?_
      · have hc0 : kind = 0 := of_decide_eq_true (e0.symm.trans hc0)
        rw [if_pos hc0, then_assoc] at k3
        obtain ⟨px3, hx3⟩ := st3.obj
        obtain ⟨sh3, hIh3⟩ := hI.hid s03
        refine ⟨_, rfl, R.r, R.dr, _, rfl, hx3, rfl, _, rfl, p.x, A.c_PartTaken, p.dx, _, _, rfl, hP3.1, T.l_PartTaken, T.n_PartTaken_width, rfl, Wg.hid [R.r] H3, R, p.wd, l2, rfl, hid_same _ _, hIh3, st3, by omega, k3.seqL sh3 fun y l4 H4 ey s4 st4 k4 => ?_⟩
        have hP4 := pr_hid st3 hP3 s4
        have s04 := sh3.trans s4
        have hfy := s_bd ey hpb.1
        refine ⟨_, rfl, ((p.n : Nat) : Int), rfl, by omega, by omega, ?_⟩
        rw [Int.toNat_natCast]
        refine for_range (lo := 0) (n := p.n) (fun i σ H' => (Same H0 H' ∧ RdS A.c_BitReader H' R l4 ∧ PrS A H' p .non (List.replicate i y) ∧ ∀ j, j < i → p.may j (y * 2 ^ p.z) = true) ∧ ∃ v7 : Option V, σ = [some (.ref R.r), some (.int (p.n : Nat)), some (.int (wd : Nat)), some p.pn, some (.ref p.x), some (.int (kind : Nat)), some (.int y), v7]) ⟨⟨s04, st4, hP4, fun j hj => by omega⟩, none, rfl⟩ ?_ ?_
        · rintro i σ H5 hi ⟨⟨s5, st5, hP5, hall⟩, v7, rfl⟩
          obtain ⟨s6, hp6⟩ := hp.hid s5
          refine ⟨_, rfl, p.x, p.dx, _, rfl, hP5.1, rfl, _, rfl, Wg.hid [p.x, p.t] H5, p.x, p.dx, p.t, p.wd, p.z, p.n, p.pn, .non, List.replicate i y, p.may, y, rfl, hid_same _ _, hp6.1, hP5, hp6.2.1, ⟨hpb.1, hpb.2.1, hpb.2.2.1, by rw [List.length_replicate]; exact hi, hpb.2.2.2⟩, ?_⟩
          rw [hfy, Bool.true_and, List.length_replicate]
          by_cases hm : p.may i (y * 2 ^ p.z) = true
          · rw [if_pos hm]
            refine fun H6 s7 hP6 => ⟨⟨s6.trans s7, st5.hid hP5 s7, ?_, fun j hj => ?_⟩, some (.int (0 + (i : Nat))), rfl⟩
            · rw [List.replicate_succ']; exact hP6
            · rcases (by omega : j < i ∨ j = i) with q | rfl
              · exact hall j q
              · exact hm
          · rw [if_neg hm]
            rw [if_neg (fun z => hm (range_all_iff.mp z i hi))] at k4
            exact fun H6 s7 => k4 H6 (s6.trans s7)
        · rintro σ H5 ⟨⟨s5, st5, hP5, hall⟩, v7, rfl⟩
          rw [if_pos (range_all_iff.mpr hall)] at k4
          exact fin _ _ H5 (List.replicate p.n y) .non l4 s5 st5 (by rw [List.reverse_replicate]; exact hP5) (by rw [List.length_replicate]; omega) k4
      · have n0 : ¬ kind = 0 := fun z => hc0 (e0.trans (decide_eq_true z))
        rw [if_neg n0] at k3
        refine ⟨_, rfl, rfl, _, rfl, ?_⟩
        have e1 := eq_nat kind 1
        refine ite2 (fun hc1 => ?_) fun hc1 => ?_
        · have hc1 : kind = 1 := of_decide_eq_true (e1.symm.trans hc1)
          rw [if_pos hc1] at k3
          refine ⟨_, rfl, _, rfl, _, rfl, H0, R, p, .non, p.n, [], l2, rfl, s03, hI, hp, st3, hP3, (by show 0 + p.n ≤ _; omega), k3.seq fun ys l4 H4 ey s4 st4 k4 hP4 => ?_⟩
          have hyl := many_len ey
          exact fin _ _ H4 ys .non l4 s4 st4 hP4 (by rw [hyl]; show 0 + p.n ≤ _; omega) k4
        · have n1 : ¬ kind = 1 := fun z => hc1 (e1.trans (decide_eq_true z))
          rw [if_neg n1, if_neg (by omega)] at k3
          refine ⟨_, rfl, _, rfl, _, rfl, _, rfl, H0, R, p, kind, l2, rfl, s03, hI, hp, st3, hP3, ⟨by omega, by omega⟩, k3.seq fun ys l4 H4 ey s4 st4 k4 ⟨g, hP4⟩ => ?_⟩
          exact fin _ _ H4 ys g l4 s4 st4 hP4 (guessed_len ey hn) k4
theorem tg_exact {w z n p r : Nat} {a : List Int} {h : Nat} {may : Nat → Int → Bool} : ∀ {k i : Nat} {ys xs : List Int} {l l' : Sound.Bits}, Sound.takeGroups w z n p r a h may k (i + 1) ys l = .ok xs l' → xs.length = ys.length + k * (n / 2 ^ r)
  | 0, i, ys, xs, l, l', e => by unfold Sound.takeGroups at e; cases e; omega
  | k + 1, i, ys, xs, l, l', e => by
    rw [tg_succ, if_neg (by omega), Nat.sub_zero] at e
    cases e1 : groupS w z may a h (n / 2 ^ r) ys l with
    | ok ys1 l1 =>
      rw [e1] at e
      have h1 := groupS_len e1
      have h2 := tg_exact (show Sound.takeGroups w z n p r a h may k (i + 1 + 1) ys1 l1 = .ok xs l' from e)
      rw [Nat.add_mul, Nat.one_mul]
      omega
    | bad => rw [e1] at e; cases e
    | short => rw [e1] at e; cases e
theorem groups_exact {w z n : Nat} {may : Nat → Int → Bool} {p : Nat} {a : List Int} {h : Nat} {ys xs : List Int} {l l' : Sound.Bits} (e : groupsS w z n may p a h ys l = .ok xs l') (hy : ys.length = p) : xs.length = n := by
  unfold groupsS at e
  cases e1 : Sound.takeU 3 l with
  | ok r l1 =>
    rw [e1] at e
    have e : (if 6 < r ∨ Sound.mayCut n p r = false then (.bad : Sound.Got (List Int)) else Sound.takeGroups w z n p r a h may (2 ^ r) 0 ys l1) = .ok xs l' := e
    split at e
    · cases e
    · rename_i hr
      have hmc : n % 2 ^ r = 0 ∧ p ≤ n / 2 ^ r := by
        have : Sound.mayCut n p r = true := by
          cases q : Sound.mayCut n p r with
          | true => rfl
          | false => exact absurd (.inr q) hr
        unfold Sound.mayCut at this
        rw [Bool.and_eq_true, beq_iff_eq, decide_eq_true_eq] at this
        exact this
      have hdiv : n / 2 ^ r * 2 ^ r = n := Nat.div_mul_cancel (Nat.dvd_of_mod_eq_zero hmc.1)
      have h2p : 0 < 2 ^ r := Nat.two_pow_pos r
      obtain ⟨m, hm⟩ : ∃ m, 2 ^ r = m + 1 := ⟨2 ^ r - 1, by omega⟩
      rw [hm, tg_succ, if_pos rfl] at e
      cases e2 : groupS w z may a h (n / 2 ^ r - p) ys l1 with
      | ok ys1 l2 =>
        rw [e2] at e
        have h1 := groupS_len e2
        have h2 := tg_exact (show Sound.takeGroups w z n p r a h may m (0 + 1) ys1 l2 = .ok xs l' from e)
        have hdiv2 : (m + 1) * (n / 2 ^ r) = n := by rw [← hm, Nat.mul_comm]; exact hdiv
        rw [Nat.add_mul, Nat.one_mul] at hdiv2
        have hp := hmc.2
        generalize n / 2 ^ r = sz at *
        omega
      | bad => rw [e2] at e; cases e
      | short => rw [e2] at e; cases e
  | bad => rw [e1] at e; cases e
  | short => rw [e1] at e; cases e
theorem guessed_exact {x z n : Nat} {may : Nat → Int → Bool} {kind : Nat} {l l' : Sound.Bits} {xs : List Int} (e : guessedS x z n may kind l = .ok xs l') : xs.length = n := by
  have go : ∀ {o : Nat} {f : List Int → Sound.Bits → Sound.Got (List Int)}, (∀ ys l, ys.length = o → f ys l = .ok xs l' → xs.length = n) → (Sound.takeMany (numS x z may) o [] l).then_ f = .ok xs l' → xs.length = n := fun {o f} hf e => by
    cases e1 : Sound.takeMany (numS x z may) o [] l with
    | ok ys l1 =>
      rw [e1] at e
      have h1 := many_len e1
      exact hf ys l1 (by rw [h1]; show 0 + o = o; omega) e
    | bad => rw [e1] at e; cases e
    | short => rw [e1] at e; cases e
  unfold guessedS at e
  split at e
  · split at e
    · cases e
    · exact go (fun ys l hy h => groups_exact h hy) e
  · split at e
    · cases e
    · refine go (fun ys l hy h => ?_) e
      cases e1 : Sound.takeU 4 l with
      | ok hh l1 =>
        rw [e1] at h
        have h : ((Sound.takeMany (fun (_ : List Int) (l : Sound.Bits) => Sound.takeS 12 l) (kind - 6) [] l1).then_ fun (a : List Int) (l : Sound.Bits) => groupsS x z n may (kind - 6) a.reverse hh ys l) = .ok xs l' := h
        cases e2 : Sound.takeMany (fun (_ : List Int) (l : Sound.Bits) => Sound.takeS 12 l) (kind - 6) [] l1 with
        | ok a l2 =>
          rw [e2] at h
          exact groups_exact h hy
        | bad => rw [e2] at h; cases h
        | short => rw [e2] at h; cases h
      | bad => rw [e1] at h; cases h
      | short => rw [e1] at h; cases h
theorem then_ok {α β : Type} {g : Sound.Got α} {f : α → Sound.Bits → Sound.Got β} {y : β} {r : Sound.Bits} (h : g.then_ f = .ok y r) : ∃ x l, g = .ok x l ∧ f x l = .ok y r := by
  cases g with
  | ok x l => exact ⟨x, l, rfl, h⟩
  | bad => cases h
  | short => cases h
theorem part_len {w n : Nat} {may : Nat → Int → Bool} {l l' : Sound.Bits} {ys : List Int} (e : Sound.takePart w n may l = .ok ys l') : ys.length = n := by
  rw [part_is] at e
  obtain ⟨z, l1, _, e⟩ := then_ok e
  obtain ⟨kind, l2, _, e⟩ := then_ok e
  obtain ⟨xs, l3, e3, e⟩ := then_ok e
  cases e
  rw [List.length_map, List.length_reverse]
  unfold kindS at e3
  split at e3
  · obtain ⟨y, l4, _, e4⟩ := then_ok e3
    split at e4
    · cases e4; rw [List.length_replicate]
    · cases e4
  · split at e3
    · have := many_len e3
      rw [this]; show 0 + n = n; omega
    · split at e3
      · cases e3
      · exact guessed_exact e3
def pairS (d n m : Nat) (l : Sound.Bits) : Sound.Got (List (Int × Int)) := (Sound.takePart (wid1 m d) n (fun _ _ => true) l).then_ fun (a : List Int) (l : Sound.Bits) => (Sound.takePart (wid2 m d) n (mayOf m d a) l).then_ fun (b : List Int) (l : Sound.Bits) => .ok (List.zipWith (Sound.unpair m) a b) l
def spPairR (K : PySem.W.Frag) (A : Adr) : Sp := fun vs H Q E => ∃ (H0 : Hp) (R : Rdr) (d n m : Nat) (l : Sound.Bits), vs = [.int d, .int n, .int m, .ref R.r] ∧ Same H0 H ∧ RdI K H0 R ∧ RdS A.c_BitReader H R l ∧ (4 ≤ d ∧ d ≤ 24 ∧ m < 4 ∧ n ≤ 256) ∧
  GotQ A H0 R (pairS d n m l) (fun ps H' => ∀ D a b, (H0 D = none ∧ H0 a = none ∧ H0 b = none) → H' D = some (.lst [.ref a, .ref b]) → H' a = some (.lst ((ps.map fun x => x.1).map V.int)) → H' b = some (.lst ((ps.map fun x => x.2).map V.int)) → Q (.ref D) H') E
theorem sc_read_pair : FnScope ["depth", "n", "mode", "reader", "first", "partner", "second", "pairs", "x", "y", "pair"] ["depth", "n", "mode", "reader"] (defScope s_read_pair) := ⟨rfl, rfl, rfl, by decide +kernel, rfl, by decide +kernel, by decide +kernel⟩
theorem RdS.same {H H' : Hp} {R : Rdr} {l : Sound.Bits} (h : RdS A.c_BitReader H R l) (s : Same H H') : RdS A.c_BitReader H' R l := by
  obtain ⟨i, ei, hi, hxr⟩ := h
  exact ⟨i, ei, hi, s _ _ hxr⟩
theorem ok_read_pair (T : Txt K mg A) : FnOk P w K mg base (CX1 P w) 10 A.f_read_pair A.d_read_pair ["depth", "n", "mode", "reader"] (spPairR K A) := by
  refine T.F_read_pair.okE sc_read_pair (fun vs H Q E h => ?_) (fun cdv Ar outer s H vs Q E hr h => ?_)
  · obtain ⟨H0, R, d, n, m, l, rfl, _⟩ := h
    rfl
  · obtain ⟨H0, R, d, n, m, l, rfl, s0, hI, hS, ⟨hd1, hd2, hm, hn⟩, k⟩ := h
    have hr1' : Room 1 _ := hr.mono (by decide)
    have hr2' : Room 2 _ := hr.mono (by decide)
    refine ⟨_, pss_cons (ps_set (i := 4) sc_read_pair.nd rfl (Or.inl rfl) (pe_call (ok_read_part T) hr rfl T.m_read_part T.F_read_part.kp T.b_read_part .nil passes1 (pa_cons (pv 3) (pa_cons (pv 1) (pa_cons (pe_call (ok_first_width T) hr1' rfl T.m_first_width T.F_first_width.kp T.b_first_width .nil pass0 (pa_cons (pv 2) (pa_cons (pv 0) pa_nil))) (pa_cons pe_non pa_nil))))))
      (pss_cons (ps_set (i := 5) sc_read_pair.nd rfl (Or.inl rfl) (pe_make T.k_Partner (ok_Partner_init T) hr2' rfl T.m_Partner T.b_Partner_init .nil pass0 (pa_cons (pv 2) (pa_cons (pv 0) (pa_cons (pv 4) pa_nil)))))
      (pss_cons (ps_set (i := 6) sc_read_pair.nd rfl (Or.inl rfl) (pe_call (ok_read_part T) hr rfl T.m_read_part T.F_read_part.kp T.b_read_part .nil passes1 (pa_cons (pv 3) (pa_cons (pv 1) (pa_cons (pe_call (ok_second_width T) hr1' rfl T.m_second_width T.F_second_width.kp T.b_second_width .nil pass0 (pa_cons (pv 2) (pa_cons (pv 0) pa_nil))) (pa_cons (pv 5) pa_nil))))))
      (pss_cons (ps_setLc (i := 7) (own := [("x", 8), ("y", 9)]) rfl sc_read_pair.nd rfl rfl rfl (pi_zip rfl T.z_zip (pa_cons (pv 4) (pa_cons (pv 6) pa_nil))) (blkOk_by (by kernel_rfl))
        (fun _ _ _ _ _ => pgtK (K := K) (n := 2) rfl rfl (pgs_cons (pg_name (i := 8) sc_read_pair.nd rfl (Or.inl rfl)) (pgs_cons (pg_name (i := 9) sc_read_pair.nd rfl (Or.inl rfl)) pgs_nil))) (fun _ _ _ _ _ => pts_nil)
        (fun _ _ _ _ _ => pe_call (ok_joined_pair T) hr1' rfl T.m_joined_pair T.F_joined_pair.kp T.b_joined_pair .nil pass0 (pa_cons (pv 2) (pa_cons (pv 8) (pa_cons (pv 9) pa_nil)))))
      (pss_one (ps_ret (pe_lst (pa_cons (pe_lc (own := [("pair", 10)]) rfl sc_read_pair.nd (pi_list (pv 7)) (blkOk_by (by kernel_rfl)) (fun _ _ _ _ _ => pg_name (i := 10) sc_read_pair.nd rfl (Or.inl rfl)) (fun _ _ _ _ _ => pts_nil) (fun _ _ _ _ _ => pe_ix (ixT (K := K) rfl) (pv 10) pe_int (fun _ _ => rfl)))
        (pa_cons (pe_lc (own := [("pair", 10)]) rfl sc_read_pair.nd (pi_list (pv 7)) (blkOk_by (by kernel_rfl)) (fun _ _ _ _ _ => pg_name (i := 10) sc_read_pair.nd rfl (Or.inl rfl)) (fun _ _ _ _ _ => pts_nil) (fun _ _ _ _ _ => pe_ix (ixT (K := K) rfl) (pv 10) pe_int (fun _ _ => rfl))) pa_nil)))))))), ?_⟩
    have hw1 : 2 ≤ wid1 m d ∧ wid1 m d ≤ 25 := by unfold wid1; split <;> omega
    have hw2 : 2 ≤ wid2 m d ∧ wid2 m d ≤ 25 := by unfold wid2; split <;> omega
    unfold pairS at k
    refine ⟨_, rfl, _, rfl, _, rfl, _, rfl, m, d, rfl, H0, R, wid1 m d, n, .non, _, l, rfl, s0, hI, .inl ⟨rfl, rfl⟩, hS, ⟨hw1.1, hw1.2, hn⟩, k.seq fun a l1 H1 ea s1 st1 k1 D1 hD1 hx1 => ?_⟩
    have hal := part_len ea
    refine ⟨_, rfl, _, rfl, _, rfl, fun pa dpa hpa hdpa hne => ⟨pa, dpa, _, _, _, rfl, upd_same, rfl, ?_⟩⟩
    rw [upd_made]
    have s2 : Same H1 (upd (upd H1 dpa (.own pa)) pa (.ins A.c_Partner dpa (paf (.int (m : Nat)) (.int (d : Nat)) (.ref D1)))) := same_made hpa hdpa
    have hpa2 : upd (upd H1 dpa (.own pa)) pa (.ins A.c_Partner dpa (paf (.int (m : Nat)) (.int (d : Nat)) (.ref D1))) pa = some (.ins A.c_Partner dpa (paf (.int (m : Nat)) (.int (d : Nat)) (.ref D1))) := upd_same
    generalize upd (upd H1 dpa (.own pa)) pa (.ins A.c_Partner dpa (paf (.int (m : Nat)) (.int (d : Nat)) (.ref D1))) = H2 at *
    have s02 := s1.trans s2
    have st2 := st1.same s2
    obtain ⟨sh, hIh⟩ := hI.hid s02
    obtain ⟨ir, hxr⟩ := st2.obj
    have hD12 := s2 _ _ hx1
    have nD : D1 ≠ R.r := fun z => by rw [z, hxr] at hD12; cases hD12
    have nP : pa ≠ R.r := fun z => by rw [z, (st1.obj).choose_spec] at hpa; cases hpa
    have hM : MayI K A (Wg.hid [R.r] H2) (.ref pa) n (mayOf m d a) := .inr ⟨pa, m, d, a, rfl, ⟨dpa, D1, by rw [hid_out (by simpa using nP)]; exact hpa2, SqL.of (by rw [hid_out (by simpa using nD)]; exact hD12)⟩, ⟨hm, hd1, hd2, hal⟩, rfl⟩
    refine ⟨_, rfl, _, rfl, _, rfl, _, rfl, m, d, rfl, _, rfl, Wg.hid [R.r] H2, R, wid2 m d, n, .ref pa, _, l1, rfl, hid_same _ _, hIh, hM, st2, ⟨hw2.1, hw2.2, hn⟩, k1.seqL sh fun b l2 H3 eb s3 st3 k3 D2 hD2 hx3 => ?_⟩
    have hbl := part_len eb
    have hD13 : H3 D1 = some (.lst (a.map V.int)) := s3 _ _ (by rw [hid_out (by simpa using nD)]; exact hD12)
    have s03 := sh.trans s3
    have q1 : SqL K H3 D1 (a.map V.int) := SqL.of hD13
    have q2 : SqL K H3 D2 (b.map V.int) := SqL.of hx3
    refine ⟨_, rfl, _, rfl, D1, D2, _, _, rfl, q1, q2, fun D hD => ?_⟩
    refine lc_rel (J := Itz K D1 D2) hD n (by rw [sizeLine_eq]; omega) (fun i v H' => ∃ t, v = .ref t ∧ H' t = some (.tup [.int (Sound.unpair m (a.getD i 0) (b.getD i 0)).1, .int (Sound.unpair m (a.getD i 0) (b.getD i 0)).2])) (fun i v H' H'' _ s ⟨t, e, h⟩ => ⟨t, e, s _ _ h⟩)
      (fun i Hh hi t1 => ⟨_, _, _, _, t1.seq q1, t1.seq q2, int_get (by omega), int_get (by omega)⟩) (fun Hh t1 => ⟨_, _, t1.seq q1, t1.seq q2, .inl (by rw [List.length_map]; omega)⟩) ?_ ?_
    · rintro i Hh z H' hi t1 ⟨lst, hlst⟩ ⟨t, x1, y1, rfl, ht, rfl, hxx, hyy⟩ C hC
      obtain ⟨rfl, _⟩ := map_int_get (hxx _ (t1.seq q1))
      obtain ⟨rfl, _⟩ := map_int_get (hyy _ (t1.seq q2))
      have st : Same Hh (upd Hh t (.tup [V.int (a.getD i 0), V.int (b.getD i 0)])) := same_new ht
      refine ⟨t, _, rfl, SqT.of upd_same, rfl, _, _, rfl, _, _, rfl, rfl, rfl, _, rfl, _, rfl, _, rfl, m, _, _, rfl, hm, fun D5 H5 hD5 s5 hx5 => ?_⟩
      refine hC _ H5 (st.trans s5) ⟨D5, rfl, ?_⟩
      have n5 : D5 ≠ D := fun z => by
        have := st _ _ hlst
        rw [← z, hD5] at this; cases this
      rw [hide_ne n5]; exact hx5
    intro H4 xs s4 hxl hxp hDx
    have st4 := st3.same s4
    have s04 := s03.trans s4
    have hD4 : SqL K H4 D xs := SqL.of hDx
    have zl : (List.zipWith (Sound.unpair m) a b).length = n := by rw [List.length_zipWith]; omega
    have zg : ∀ i, i < n → (List.zipWith (Sound.unpair m) a b)[i]? = some (Sound.unpair m (a.getD i 0) (b.getD i 0)) := fun i hi => by
      rw [List.getElem?_zipWith, List.getElem?_eq_getElem (show i < a.length by omega), List.getElem?_eq_getElem (show i < b.length by omega), List.getD_eq_getElem?_getD, List.getD_eq_getElem?_getD, List.getElem?_eq_getElem (show i < a.length by omega), List.getElem?_eq_getElem (show i < b.length by omega)]; rfl
    have item : ∀ i, i < n → ∃ t, xs[i]? = some (.ref t) ∧ H4 t = some (.tup [.int (Sound.unpair m (a.getD i 0) (b.getD i 0)).1, .int (Sound.unpair m (a.getD i 0) (b.getD i 0)).2]) := fun i hi => by
      have e := List.getElem?_eq_getElem (l := xs) (i := i) (by omega)
      obtain ⟨t, et, ht⟩ := hxp i _ e
      exact ⟨t, by rw [e, et], ht⟩
    have vals : ∀ (f : Int × Int → Int), (List.range n).map (fun i => V.int (f (Sound.unpair m (a.getD i 0) (b.getD i 0)))) = ((List.zipWith (Sound.unpair m) a b).map f).map V.int := fun f => by
      refine List.ext_getElem? fun i => ?_
      by_cases hi : i < n
      · rw [List.getElem?_map, List.getElem?_range hi, List.getElem?_map, List.getElem?_map, zg i hi]; rfl
      · rw [List.getElem?_eq_none (by rw [List.length_map, List.length_range]; omega), List.getElem?_eq_none (by rw [List.length_map, List.length_map, zl]; omega)]
    refine ⟨_, rfl, D, rfl, ⟨_, hD4⟩, fun E1 hE1 => ?_⟩
    refine lc_val (J := Itl K D) hE1 n (by rw [sizeLine_eq]; omega) (fun i => .int (Sound.unpair m (a.getD i 0) (b.getD i 0)).1) (fun i Hh hi t1 => by
      obtain ⟨t, e, _⟩ := item i hi
      exact ⟨_, _, t1.seq hD4, e⟩) (fun Hh t1 => ⟨_, t1.seq hD4, by omega⟩) ?_ ?_
    · rintro i Hh z H' hi t1 ⟨rfl, hz⟩ C hC
      obtain ⟨t, e, ht⟩ := item i hi
      have ez := hz _ (t1.seq hD4)
      rw [e] at ez; cases ez
      exact ⟨rfl, _, rfl, t, _, _, _, rfl, rfl, SqT.of (t1 _ _ ht), atI_nat (j := 0) rfl, hC _ (Same.refl _)⟩
    intro H5 s5 hE1x
    rw [vals (fun x => x.1)] at hE1x
    refine ⟨_, rfl, D, rfl, ⟨_, s5.seq hD4⟩, fun E2 hE2 => ?_⟩
    refine lc_val (J := Itl K D) hE2 n (by rw [sizeLine_eq]; omega) (fun i => .int (Sound.unpair m (a.getD i 0) (b.getD i 0)).2) (fun i Hh hi t1 => by
      obtain ⟨t, e, _⟩ := item i hi
      exact ⟨_, _, (s5.trans t1).seq hD4, e⟩) (fun Hh t1 => ⟨_, (s5.trans t1).seq hD4, by omega⟩) ?_ ?_
    · rintro i Hh z H' hi t1 ⟨rfl, hz⟩ C hC
      obtain ⟨t, e, ht⟩ := item i hi
      have ez := hz _ ((s5.trans t1).seq hD4)
      rw [e] at ez; cases ez
      exact ⟨rfl, _, rfl, t, _, _, _, rfl, rfl, SqT.of ((s5.trans t1) _ _ ht), atI_nat (j := 1) rfl, hC _ (Same.refl _)⟩
    intro H6 s6 hE2x
    rw [vals (fun x => x.2)] at hE2x
    refine ⟨by rw [sizeLine_eq]; show 2 ≤ _; omega, fun D7 hD7 => ?_⟩
    have s7 := same_new (o := .lst [V.ref E1, V.ref E2]) hD7
    have s06 := s04.trans (s5.trans s6)
    exact k3 _ (s06.trans s7) ((st4.same (s5.trans s6)).same s7) D7 E1 E2 ⟨s06.none hD7, s04.none hE1, (s04.trans s5).none hE2⟩ upd_same (s7 _ _ (s6 _ _ hE1x)) (s7 _ _ hE2x)
def fm6 (c d b o g s : V) : List (Str × V) := [("channels", c), ("depth", d), ("block", b), ("order", o), ("group", g), ("spare", s)]
def IsFm (C : Addr) (H : Hp) (f : Addr) (F : Sound.Form) : Prop := ∃ dx, H f = some (.ins C dx (fm6 (.int F.channels) (.int F.depth) (.int F.block) (.int F.order) (.int F.group) (.int F.spare)))
theorem IsFm.same {C : Addr} {H H' : Hp} {f : Addr} {F : Sound.Form} (h : IsFm C H f F) (s : Same H H') : IsFm C H' f F := by
  obtain ⟨dx, h⟩ := h
  exact ⟨dx, s _ _ h⟩
def spFm (K : PySem.W.Frag) (C : Addr) : Sp := fun vs H Q _ => ∃ (p dx q : Addr) (c d b o g s : Int), vs = [.ref p, .ref q] ∧ H p = some (.ins C dx []) ∧ SqL K H q [.int c, .int d, .int b, .int o, .int g, .int s] ∧ Q .non (upd H p (.ins C dx (fm6 (.int c) (.int d) (.int b) (.int o) (.int g) (.int s))))
theorem sc_Form_init : FnScope ["self", "form"] ["self", "form"] (defScope s_Form_init) := ⟨rfl, rfl, rfl, by decide +kernel, rfl, by decide +kernel, by decide +kernel⟩
theorem ok_Form_init (T : Txt K mg A) : FnOk P w K mg base CX0 1 A.f_Form_init A.d_Form_init ["self", "form"] (spFm K A.c_Form) := by
  refine T.F_Form_init.ok sc_Form_init (fun vs H Q E h => ?_) (fun cdv Ar outer s H vs Q E hr h => ?_)
  · obtain ⟨p, dx, q, c, d, b, o, g, s, rfl, _⟩ := h
    rfl
  · obtain ⟨p, dx, q, c, d, b, o, g, s, rfl, hp, hq, k⟩ := h
    refine ⟨_, pss_cons (ps_fld (pv 0) (pe_ix ix_list (pv 1) pe_int (fun _ _ => rfl)) rfl) (pss_cons (ps_fld (pv 0) (pe_ix ix_list (pv 1) pe_int (fun _ _ => rfl)) rfl) (pss_cons (ps_fld (pv 0) (pe_ix ix_list (pv 1) pe_int (fun _ _ => rfl)) rfl)
      (pss_cons (ps_fld (pv 0) (pe_ix ix_list (pv 1) pe_int (fun _ _ => rfl)) rfl) (pss_cons (ps_fld (pv 0) (pe_ix ix_list (pv 1) pe_int (fun _ _ => rfl)) rfl) (pss_one (ps_fld (pv 0) (pe_ix ix_list (pv 1) pe_int (fun _ _ => rfl)) rfl)))))), ?_⟩
    have sq : ∀ fs, SqL K (upd H p (.ins A.c_Form dx fs)) q [.int c, .int d, .int b, .int o, .int g, .int s] := fun fs => by
      rcases hq with (h | ⟨ob, h⟩) | h
      · exact .inl (.inl (by rw [upd_ne (ne_of h hp (by intro e; cases e))]; exact h))
      · exact .inl (.inr ⟨ob, by rw [upd_ne (ne_of h hp (by intro e; cases e))]; exact h⟩)
      · exact .inr h
    refine ⟨_, rfl, q, _, _, _, rfl, rfl, hq, atI_nat (j := 0) rfl, _, rfl, p, A.c_Form, dx, [], rfl, hp, T.l_Form, T.n_Form_channels, (by show 0 < 1000; decide), ?_⟩
    refine ⟨_, rfl, q, _, _, _, rfl, rfl, sq _, atI_nat (j := 1) rfl, _, rfl, p, A.c_Form, dx, _, rfl, upd_same, T.l_Form, T.n_Form_depth, (by show 1 < 1000; decide), ?_⟩
    rw [upd_upd]
    refine ⟨_, rfl, q, _, _, _, rfl, rfl, sq _, atI_nat (j := 2) rfl, _, rfl, p, A.c_Form, dx, _, rfl, upd_same, T.l_Form, T.n_Form_block, (by show 2 < 1000; decide), ?_⟩
    rw [upd_upd]
    refine ⟨_, rfl, q, _, _, _, rfl, rfl, sq _, atI_nat (j := 3) rfl, _, rfl, p, A.c_Form, dx, _, rfl, upd_same, T.l_Form, T.n_Form_order, (by show 3 < 1000; decide), ?_⟩
    rw [upd_upd]
    refine ⟨_, rfl, q, _, _, _, rfl, rfl, sq _, atI_nat (j := 4) rfl, _, rfl, p, A.c_Form, dx, _, rfl, upd_same, T.l_Form, T.n_Form_group, (by show 4 < 1000; decide), ?_⟩
    rw [upd_upd]
    refine ⟨_, rfl, q, _, _, _, rfl, rfl, sq _, atI_nat (j := 5) rfl, _, rfl, p, A.c_Form, dx, _, rfl, upd_same, T.l_Form, T.n_Form_spare, (by show 5 < 1000; decide), ?_⟩
    rw [upd_upd]
    exact k
theorem chan_cons (F : Sound.Form) (n m : Nat) (ms : List Nat) (acc : List (List Int)) (l : Sound.Bits) : Sound.takeChannels F n (m :: ms) acc l = (pairS F.depth n m l).then_ fun (ps : List (Int × Int)) (l : Sound.Bits) => Sound.takeChannels F n ms (acc ++ [ps.map fun (x : Int × Int) => x.1, ps.map fun (x : Int × Int) => x.2]) l := by
  unfold pairS
  rw [then_assoc]
  conv => lhs; unfold Sound.takeChannels
  congr 1
  funext a l
  rw [then_assoc]
  rfl
def ChI (H : Hp) (D : Addr) (cs : List (List Int)) : Prop := ∃ as : List Addr, H D = some (.lst (as.map V.ref)) ∧ as.length = cs.length ∧ ∀ (k : Nat) (a : Addr), as[k]? = some a → a ≠ D ∧ H a = some (.lst ((cs.getD k []).map V.int))
theorem ChI.same {H H' : Hp} {D : Addr} {cs : List (List Int)} (h : ChI H D cs) (s : Same H H') : ChI H' D cs := by
  obtain ⟨as, h1, h2, h3⟩ := h
  exact ⟨as, s _ _ h1, h2, fun k a e => ⟨(h3 k a e).1, s _ _ (h3 k a e).2⟩⟩
theorem ChI.add {H : Hp} {D : Addr} {cs : List (List Int)} {bs : List Addr} {ds : List (List Int)} (h : ChI H D cs) (hl : bs.length = ds.length) (hb : ∀ (k : Nat) (a : Addr), bs[k]? = some a → a ≠ D ∧ H a = some (.lst ((ds.getD k []).map V.int))) : ∃ as : List Addr, H D = some (.lst (as.map V.ref)) ∧ ChI (upd H D (.lst (as.map V.ref ++ bs.map V.ref))) D (cs ++ ds) := by
  obtain ⟨as, h1, h2, h3⟩ := h
  refine ⟨as, h1, as ++ bs, by rw [upd_same, List.map_append], by rw [List.length_append, List.length_append, h2, hl], fun k a e => ?_⟩
  by_cases hk : k < as.length
  · rw [List.getElem?_append_left hk] at e
    obtain ⟨z1, z2⟩ := h3 k a e
    refine ⟨z1, ?_⟩
    rw [upd_ne z1, z2, List.getD_eq_getElem?_getD, List.getD_eq_getElem?_getD, List.getElem?_append_left (by omega)]
  · rw [List.getElem?_append_right (by omega)] at e
    obtain ⟨z1, z2⟩ := hb _ a e
    refine ⟨z1, ?_⟩
    rw [upd_ne z1, z2, List.getD_eq_getElem?_getD, List.getD_eq_getElem?_getD, List.getElem?_append_right (by omega), h2]
theorem ChI.hid {H H' : Hp} {D : Addr} {cs : List (List Int)} {R : Rdr} {l : Sound.Bits} (h : ChI H D cs) (st : RdS A.c_BitReader H R l) (s : Same (Wg.hid [R.r] H) H') : ChI H' D cs := by
  obtain ⟨as, h1, h2, h3⟩ := h
  obtain ⟨i, hx⟩ := st.obj
  have keep : ∀ b xs, H b = some (.lst xs) → H' b = some (.lst xs) := fun b xs e => s _ _ (by rw [hid_out (fun z => by rw [List.mem_singleton.mp z, hx] at e; cases e)]; exact e)
  exact ⟨as, keep _ _ h1, h2, fun k a e => ⟨(h3 k a e).1, keep _ _ (h3 k a e).2⟩⟩
def spChans (K : PySem.W.Frag) (A : Adr) : Sp := fun vs H Q E => ∃ (H0 : Hp) (R : Rdr) (f : Addr) (F : Sound.Form) (n : Nat) (l : Sound.Bits), vs = [.ref f, .int n, .ref R.r] ∧ Same H0 H ∧ RdI K H0 R ∧ IsFm A.c_Form H0 f F ∧ RdS A.c_BitReader H R l ∧ (F.ok = true ∧ n ≤ 256) ∧
  GotQ A H0 R ((Sound.takeMany (fun (_ : List Nat) (l : Sound.Bits) => Sound.takeU 2 l) (Sound.pairs F) [] l).then_ fun (ms : List Nat) (l : Sound.Bits) => Sound.takeChannels F n ms.reverse [] l) (fun cs H' => ∀ D, H0 D = none → ChI H' D cs → Q (.ref D) H') E
theorem sc_read_channels : FnScope ["form", "n", "reader", "modes", "channels", "mode", "pair"] ["form", "n", "reader"] (defScope s_read_channels) := ⟨rfl, rfl, rfl, by decide +kernel, rfl, by decide +kernel, by decide +kernel⟩
theorem form_bd {F : Sound.Form} (h : F.ok = true) : (1 ≤ F.channels ∧ F.channels ≤ 4) ∧ (4 ≤ F.depth ∧ F.depth ≤ 24) ∧ (16 ≤ F.block ∧ F.block ≤ 256) ∧ F.order ≤ 4 ∧ (1 ≤ F.group ∧ F.group ≤ 8) ∧ F.spare ≤ 4 := by
  unfold Sound.Form.ok at h
  simp only [Bool.and_eq_true, decide_eq_true_eq] at h
  omega
theorem ok_read_channels (T : Txt K mg A) : FnOk P w K mg base (CX1 P w) 11 A.f_read_channels A.d_read_channels ["form", "n", "reader"] (spChans K A) := by
  refine T.F_read_channels.okE sc_read_channels (fun vs H Q E h => ?_) (fun cdv Ar outer s H vs Q E hr h => ?_)
  · obtain ⟨H0, R, f, F, n, l, rfl, _⟩ := h
    rfl
  · obtain ⟨H0, R, f, F, n, l, rfl, s0, hI, hF, hS, ⟨hok, hn⟩, k⟩ := h
    have hr1' : Room 1 _ := hr.mono (by decide)
    have hr9' : Room 9 _ := hr.mono (by decide)
    refine ⟨_, pss_cons (ps_setLcE (i := 3) (own := [("pair", 6)]) rfl rfl rfl air1 rfl sc_read_channels.nd rfl rfl rfl (pi_range1 rfl T.z_range (pa_cons (pe_op op_fdiv (pe_fld (pv 0) rfl) pe_int) pa_nil)) (blkOk_by (by kernel_rfl)) (fun _ _ _ _ _ _ => pg_name (i := 6) sc_read_channels.nd rfl (Or.inl rfl)) (fun _ _ _ _ _ _ => pts_nil)
        (fun _ _ _ _ _ _ hp => pe_meth (pv 2) T.l_BitReader T.e_BitReader_unsigned (ok_BitReader_unsigned T) hr1' T.b_BitReader_unsigned .nil hp (pa_cons pe_int pa_nil)))
      (pss_cons (ps_set (i := 4) sc_read_channels.nd rfl (Or.inl rfl) (pe_lst pa_nil))
      (pss_cons (ps_for PassesOwn.leaving rfl (pi_list (pv 3)) (pg_name (i := 5) sc_read_channels.nd rfl (Or.inl rfl))
        (pss_one (ps_expr (pe_bm PySem.F.plainAttrs_list PySem.F.slot_list_extend PySem.F.type_list_extend mt_extend (pv 4) (pa_cons (pe_call (ok_read_pair T) hr rfl T.m_read_pair T.F_read_pair.kp T.b_read_pair .nil passes1 (pa_cons (pe_fld (pv 0) rfl) (pa_cons (pv 1) (pa_cons (pv 5) (pa_cons (pv 2) pa_nil))))) pa_nil)))))
      (pss_cons (ps_if (pt_cmpR op_eq (pe_op op_mod (pe_fld (pv 0) rfl) pe_int) pe_int (nomark _)) (pss_one (ps_expr (pe_bm PySem.F.plainAttrs_list PySem.F.slot_list_append PySem.F.type_list_append mt_append (pv 4) (pa_cons (pe_call (ok_read_part T) hr9' rfl T.m_read_part T.F_read_part.kp T.b_read_part .nil passes1 (pa_cons (pv 2) (pa_cons (pv 1) (pa_cons (pe_fld (pv 0) rfl) (pa_cons pe_non pa_nil))))) pa_nil)))) pss_nil)
      (pss_one (ps_ret (pv 4)))))), ?_⟩
    obtain ⟨⟨hc1, hc2⟩, ⟨hd1, hd2⟩, _⟩ := form_bd hok
    have e62 : (2 : Int) ^ 62 = 4611686018427387904 := by decide
    obtain ⟨df, hf⟩ := hF
    have hfH := s0 _ _ hf
    refine ⟨_, rfl, f, A.c_Form, df, _, _, rfl, hfH, T.l_Form, T.n_Form_channels, rfl, _, _, rfl, rfl, ⟨by decide, by decide⟩, ((F.channels / 2 : Nat) : Int), (by show [V.int (((F.channels : Nat) : Int) / 2)] = _; congr 2), by omega, by omega, fun D hD => ?_⟩
    rw [Int.toNat_natCast]
    have hD0 : H0 D = none := s0.none hD
    have hpr : Sound.pairs F = F.channels / 2 := rfl
    rw [hpr] at k
    refine lc_st (F.channels / 2) (by rw [sizeLine_eq]; omega) (fun i acc H' => ∃ (ms : List Nat) (l' : Sound.Bits), acc = vN ms.reverse ∧ Same (Wg.hid [R.r] H) H' ∧ RdS A.c_BitReader H' R l' ∧ ms.length = i ∧ (∀ m ∈ ms, m < 4) ∧ GotQ A H0 R ((Sound.takeMany (fun (_ : List Nat) (l : Sound.Bits) => Sound.takeU 2 l) (F.channels / 2 - i) ms l').then_ fun (ms : List Nat) (l : Sound.Bits) => Sound.takeChannels F n ms.reverse [] l) (fun cs H' => ∀ D, H0 D = none → ChI H' D cs → Q (.ref D) H') E) ?_ ?_ ?_ ?_ ?_
    · refine ⟨[], l, rfl, fun b u e => ?_, ?_, rfl, (fun m hm => by cases hm), k⟩
      · have := hid_same _ _ b u e
        rw [upd_ne (ne_of_none this hD)]; exact this
      · obtain ⟨i, ei, hi, hxr⟩ := hS
        exact ⟨i, ei, hi, by rw [upd_ne (ne_of_none hxr hD)]; exact hxr⟩
    · exact fun i acc H' hi _ => hi
    · exact fun acc H' _ => Nat.le_refl _
    · rintro i acc H3 x H3' hi ⟨ms, l3, rfl, s3, st3, hl3, hm3, k3⟩ hDx hal ⟨hH3, rfl⟩ C hC
      rw [hH3]
      obtain ⟨px3, hx3⟩ := st3.obj
      rw [show F.channels / 2 - i = (F.channels / 2 - (i + 1)) + 1 by omega, many_succ, then_assoc] at k3
      obtain ⟨sh2, _⟩ := hI.hid s0
      obtain ⟨sh3, hIh3⟩ := hI.hid (sh2.trans s3)
      refine ⟨rfl, _, rfl, R.r, R.dr, _, rfl, hx3, rfl, Wg.hid [R.r] H3, R, 2, l3, rfl, hid_same _ _, hIh3, st3, by decide, k3.seqL sh3 fun y l4 H4 ey4 s4 st4 k4 => ?_⟩
      have nDr : D ≠ R.r := fun z => by rw [z, hx3] at hDx; cases hDx
      refine hC _ H4 (s4 _ _ (by rw [hid_out (by simpa using nDr)]; exact hDx)) ⟨y :: ms, l4, ?_, ?_, ?_, by rw [List.length_cons, hl3], ?_, k4⟩
      · rw [List.reverse_cons, vN_app]; rfl
      · intro b u e
        have e3 := s3 b u e
        by_cases hb : b = D
        · subst hb
          have := hid_same _ _ _ u e
          rw [hD] at this; cases this
        · rw [upd_ne hb]
          refine s4 _ _ ?_
          rw [hid_out (fun z => by
            rw [List.mem_singleton.mp z, hid_in (by simp)] at e; cases e)]
          exact e3
      · obtain ⟨j, ej, hj, hxr⟩ := st4
        exact ⟨j, ej, hj, by rw [upd_ne (Ne.symm nDr)]; exact hxr⟩
      · intro z hz
        rcases List.mem_cons.mp hz with rfl | hz
        · exact u_lt ey4
        · exact hm3 z hz
    · rintro acc H3 ⟨ms, l3, rfl, s3, st3, hl3, hm3, k3⟩ hDx hal
      rw [Nat.sub_self] at k3
      have k3 : GotQ A H0 R (Sound.takeChannels F n ms.reverse [] l3) (fun cs H' => ∀ D, H0 D = none → ChI H' D cs → Q (.ref D) H') E := k3
      obtain ⟨sh2, _⟩ := hI.hid s0
      have s03 := sh2.trans s3
      have hml : ms.reverse.length ≤ 2 := by rw [List.length_reverse, hl3]; omega
      have hm4 : ∀ m ∈ ms.reverse, m < 4 := fun m hm => hm3 m (List.mem_reverse.mp hm)
      generalize ms.reverse = mr at *
      refine ⟨by rw [sizeLine_eq]; show 0 ≤ _; omega, fun D2 hD2 => ?_⟩
      have s4 := same_new (o := .lst []) hD2
      have hD20 : H0 D2 = none := s03.none hD2
      have hDx4 : upd H3 D2 (.lst []) D = some (.lst (vN mr)) := s4 _ _ hDx
      have hCh : ChI (upd H3 D2 (.lst [])) D2 [] := ⟨[], upd_same, rfl, fun k a e => by simp at e⟩
      have st4 := st3.same s4
      have s04 := s03.trans s4
      have nD2 : D ≠ D2 := fun z => by rw [← z, hDx] at hD2; cases hD2
      generalize upd H3 D2 (.lst []) = H4 at *
      refine ⟨_, rfl, D, rfl, ⟨_, SqL.of hDx4⟩, ?_⟩
      refine for_list (K := K) (a := D) (xs := vN mr) (fun i σ H' => (Same H0 H' ∧ H' D = some (.lst (vN mr)) ∧ ∃ (l' : Sound.Bits) (cs : List (List Int)), RdS A.c_BitReader H' R l' ∧ ChI H' D2 cs ∧ cs.length = 2 * i ∧ GotQ A H0 R (Sound.takeChannels F n (mr.drop i) cs l') (fun cs H' => ∀ D, H0 D = none → ChI H' D cs → Q (.ref D) H') E) ∧ ∃ v5 v6 : Option V, σ = [some (.ref f), some (.int (n : Nat)), some (.ref R.r), some (.ref D), some (.ref D2), v5, v6])
        ⟨⟨s04, hDx4, l3, [], st4, hCh, rfl, k3⟩, none, none, rfl⟩ (fun i σ H' _ ⟨⟨_, e, _⟩, _⟩ => SqL.of e) ?_ ?_
      · rintro i x σ H5 hi ⟨⟨s5, hDx5, l5, cs, st5, hC5, hcl, k5⟩, v5, v6, rfl⟩
        obtain ⟨rfl, hil⟩ := vN_get' hi
        have hmi : mr.getD i 0 < 4 := getD_lt hm4 hil
        have ed : mr.drop i = mr.getD i 0 :: mr.drop (i + 1) := by
          rw [List.drop_eq_getElem_cons hil, getD_at hil]
        rw [ed, chan_cons] at k5
        obtain ⟨as, has, _⟩ := id hC5
        obtain ⟨sh5, hIh5⟩ := hI.hid s5
        obtain ⟨ir, hxr⟩ := st5.obj
        have hf5 := s5 _ _ hf
        refine ⟨_, rfl, .inl ⟨rfl, _, SqL.of has⟩, _, rfl, f, A.c_Form, df, _, _, rfl, hf5, T.l_Form, T.n_Form_depth, rfl, _, rfl, _, rfl, _, rfl, Wg.hid [R.r] H5, R, F.depth, n, mr.getD i 0, l5, rfl, hid_same _ _, hIh5, st5, ⟨hd1, hd2, hmi, hn⟩, k5.seqL sh5 fun ps l6 H6 _ s6 st6 k6 E1 a b ⟨hE1, ha, hb⟩ hxE hxa hxb => ?_⟩
        have hC6 := hC5.hid st5 s6
        have nr : ∀ c xs, H5 c = some (.lst xs) → H6 c = some (.lst xs) := fun c xs e => s6 _ _ (by rw [hid_out (fun z => by rw [List.mem_singleton.mp z, hxr] at e; cases e)]; exact e)
        have na : a ≠ D2 := fun z => by
          have : Wg.hid [R.r] H5 D2 = some (.lst (as.map V.ref)) := by rw [hid_out (fun z => by rw [List.mem_singleton.mp z, hxr] at has; cases has)]; exact has
          rw [← z, ha] at this; cases this
        have nb : b ≠ D2 := fun z => by
          have : Wg.hid [R.r] H5 D2 = some (.lst (as.map V.ref)) := by rw [hid_out (fun z => by rw [List.mem_singleton.mp z, hxr] at has; cases has)]; exact has
          rw [← z, hb] at this; cases this
        obtain ⟨as2, h2, hC7⟩ := hC6.add (bs := [a, b]) (ds := [ps.map fun x => x.1, ps.map fun x => x.2]) rfl (fun k c e => by
          match k, e with
          | 0, e => cases e; exact ⟨na, hxa⟩
          | 1, e => cases e; exact ⟨nb, hxb⟩)
        have hal2 : as2.length = cs.length := by
          obtain ⟨as3, h3, h4, _⟩ := hC6
          rw [h2] at h3
          injection h3 with h3
          injection h3 with h3
          have := congrArg List.length h3
          rw [List.length_map, List.length_map] at this
          omega
        have hil2 : i < 2 := by omega
        refine ⟨D2, E1, _, _, rfl, rfl, h2, hxE, (by rw [List.length_map, hal2, hcl, sizeLine_eq]; show _ + 2 ≤ _; omega), ⟨⟨same_keep (sh5.trans s6) hD20, ?_, l6, cs ++ [ps.map fun x => x.1, ps.map fun x => x.2], ?_, hC7, by rw [List.length_append, hcl]; show 2 * i + 2 = _; omega, k6⟩, some (.int (mr.getD i 0 : Nat)), v6, rfl⟩⟩
        · rw [upd_ne nD2]; exact nr _ _ hDx5
        · obtain ⟨j, ej, hj, hxr6⟩ := st6
          exact ⟨j, ej, hj, by rw [upd_ne (fun z => by rw [← z, hxr6] at h2; cases h2)]; exact hxr6⟩
      · rintro σ H5 ⟨⟨s5, hDx5, l5, cs, st5, hC5, hcl, k5⟩, v5, v6, rfl⟩
        rw [vN_len, List.drop_length] at k5
        rw [vN_len] at hcl
        have hf5 := s5 _ _ hf
        refine ⟨_, rfl, f, A.c_Form, df, _, _, rfl, hf5, T.l_Form, T.n_Form_channels, rfl, _, _, rfl, rfl, (by show (0 : Int) < 2; decide), rfl, _, rfl, ?_⟩
        unfold Sound.takeChannels at k5
        refine ite2 (fun hc => ?_) fun hc => ?_
        · have hc := V.int.inj (of_decide_eq_true hc)
          rw [if_pos (by omega)] at k5
          obtain ⟨as, has, _⟩ := id hC5
          obtain ⟨sh5, hIh5⟩ := hI.hid s5
          obtain ⟨ir, hxr⟩ := st5.obj
          refine ⟨_, rfl, .inl ⟨rfl, _, SqL.of has⟩, _, rfl, _, rfl, _, rfl, f, A.c_Form, df, _, _, rfl, hf5, T.l_Form, T.n_Form_depth, rfl, Wg.hid [R.r] H5, R, F.depth, n, .non, _, l5, rfl, hid_same _ _, hIh5, .inl ⟨rfl, rfl⟩, st5, ⟨by omega, by omega, hn⟩, k5.seqL sh5 fun ys l6 H6 _ s6 st6 k6 E1 hE1 hxE => ?_⟩
          have hC6 := hC5.hid st5 s6
          have na : E1 ≠ D2 := fun z => by
            have : Wg.hid [R.r] H5 D2 = some (.lst (as.map V.ref)) := by rw [hid_out (fun z => by rw [List.mem_singleton.mp z, hxr] at has; cases has)]; exact has
            rw [← z, hE1] at this; cases this
          obtain ⟨as2, h2, hC7⟩ := hC6.add (bs := [E1]) (ds := [ys]) rfl (fun k c e => by
            match k, e with
            | 0, e => cases e; exact ⟨na, hxE⟩)
          have hal2 : as2.length = cs.length := by
            obtain ⟨as3, h3, h4, _⟩ := hC6
            rw [h2] at h3
            injection h3 with h3
            injection h3 with h3
            have := congrArg List.length h3
            rw [List.length_map, List.length_map] at this
            omega
          refine ⟨D2, _, _, rfl, rfl, h2, (by rw [List.length_map, hal2, hcl, sizeLine_eq]; omega), _, rfl, ?_⟩
          refine k6 _ (same_keep (sh5.trans s6) hD20) ?_ D2 hD20 hC7
          obtain ⟨j, ej, hj, hxr6⟩ := st6
          exact ⟨j, ej, hj, by rw [upd_ne (fun z => by rw [← z, hxr6] at h2; cases h2)]; exact hxr6⟩
        · have hc : ¬ ((F.channels : Nat) : Int) % 2 = 1 := fun z => hc (decide_eq_true (show V.int (((F.channels : Nat) : Int) % 2) = V.int 1 by rw [z]))
          rw [if_neg (by omega)] at k5
          exact ⟨_, rfl, k5 H5 s5 st5 D2 hD20 hC5⟩
theorem ne_yes {a b : Nat} (h : (!decide (V.int ((a : Nat) : Int) = V.int ((b : Nat) : Int))) = true) : a ≠ b := fun q => by
  rw [q, decide_eq_true rfl] at h; cases h
theorem ne_no {a b : Nat} (h : ¬ (!decide (V.int ((a : Nat) : Int) = V.int ((b : Nat) : Int))) = true) : a = b := Classical.byContradiction fun q => h (by rw [eq_nat, decide_eq_false q]; rfl)
def endS (B : Sound.Bytes) (l : Sound.Bits) : Sound.Got Nat := (Sound.takeU (l.length % 8) l).then_ fun (z : Nat) (l : Sound.Bits) => if z ≠ 0 then .bad else (Sound.takeU 16 l).then_ fun (c : Nat) (l' : Sound.Bits) => if c ≠ Sound.crc16 (B.take (B.length - l.length / 8)) then .bad else .ok (B.length - l.length / 8 + 2) l'
def spEnd (K : PySem.W.Frag) (A : Adr) : Sp := fun vs H Q E => ∃ (H0 : Hp) (R : Rdr) (l : Sound.Bits), vs = [.ref R.r] ∧ Same H0 H ∧ RdI K H0 R ∧ RdS A.c_BitReader H R l ∧ GotQ A H0 R (endS R.B l) (fun z H' => H' R.r = some (.ins A.c_BitReader R.dr (brf (.ref R.q) (.int ((8 * z : Nat) : Int)))) → Q .non H') E
theorem sc_read_end : FnScope ["reader", "check"] ["reader"] (defScope s_read_end) := ⟨rfl, rfl, rfl, by decide +kernel, rfl, by decide +kernel, by decide +kernel⟩
theorem u_drop {n : Nat} {l : Sound.Bits} {x : Nat} {r : Sound.Bits} (h : Sound.takeU n l = .ok x r) : r = l.drop n ∧ n ≤ l.length := by
  unfold Sound.takeU at h
  split at h
  · cases h
  · rename_i hc
    cases h
    exact ⟨rfl, Nat.le_of_not_lt fun z => hc ((lacks_iff _ _).mpr z)⟩
theorem rd_at {H : Hp} {R : Rdr} {l : Sound.Bits} (h : RdS A.c_BitReader H R l) : l.length ≤ 8 * R.B.length ∧ H R.r = some (.ins A.c_BitReader R.dr (brf (.ref R.q) (.int ((8 * R.B.length - l.length : Nat) : Int)))) := by
  obtain ⟨i, rfl, hi, hx⟩ := h
  rw [List.length_drop, bitsOf_len]
  exact ⟨by omega, by rw [hx]; congr 6; omega⟩
theorem ok_read_end (T : Txt K mg A) : FnOk P w K mg base (CX1 P w) 2 A.f_read_end A.d_read_end ["reader"] (spEnd K A) := by
  refine T.F_read_end.okE sc_read_end (fun vs H Q E h => ?_) (fun cdv Ar outer s H vs Q E hr h => ?_)
  · obtain ⟨H0, R, l, rfl, _⟩ := h
    rfl
  · obtain ⟨H0, R, l, rfl, s0, hI, hS, k⟩ := h
    refine ⟨_, pss_cons (ps_if (pt_cmpR op_ne (pe_meth (pv 0) T.l_BitReader T.e_BitReader_unsigned (ok_BitReader_unsigned T) hr T.b_BitReader_unsigned .nil passes1 (pa_cons (pe_op op_mod (pe_un un_neg (pe_fld (pv 0) rfl)) pe_int) pa_nil)) pe_int (nomark _)) (pss_one (ps_raise rfl rfl T.m_Wrong T.x_Wrong.exc raise1)) pss_nil)
      (pss_cons (ps_set (i := 1) sc_read_end.nd rfl (Or.inl rfl) (pe_call (ok_crc16 T) hr rfl T.m_crc16 T.F_crc16.kp T.b_crc16 .nil pass0 (pa_cons (pe_slice sl_list (pe_fld (pv 0) rfl) po_none (po_some (pe_op op_fdiv (pe_fld (pv 0) rfl) pe_int))) pa_nil)))
      (pss_one (ps_if (pt_cmpR op_ne (pe_meth (pv 0) T.l_BitReader T.e_BitReader_unsigned (ok_BitReader_unsigned T) hr T.b_BitReader_unsigned .nil passes1 (pa_cons pe_int pa_nil)) (pv 1) (nomark _)) (pss_one (ps_raise rfl rfl T.m_Wrong T.x_Wrong.exc raise1)) pss_nil))), ?_⟩
    obtain ⟨hle, hx⟩ := rd_at hS
    obtain ⟨sh, hIh⟩ := hI.hid s0
    unfold endS at k
    refine ⟨_, rfl, R.r, R.dr, _, rfl, hx, rfl, _, rfl, R.r, A.c_BitReader, R.dr, _, _, rfl, hx, T.l_BitReader, T.n_BitReader_place, rfl, _, rfl, _, _, rfl, rfl, (by show (0 : Int) < 8; decide), Wg.hid [R.r] H, R, l.length % 8, l, ?_, hid_same _ _, hIh, hS, by omega, ?_⟩
    · show [V.ref R.r, V.int ((-((8 * R.B.length - l.length : Nat) : Int)) % 8)] = _
      congr 3; omega
    refine k.seqL sh fun z l1 H1 ez s1 st1 k1 => ?_
    obtain ⟨rfl, hz8⟩ := u_drop ez
    refine ⟨rfl, _, rfl, ?_⟩
    have s01 := sh.trans s1
    refine ite2 (fun hc => ?_) fun hc => ?_
    · have hc : ¬ z = 0 := ne_yes hc
      rw [if_pos hc] at k1
      exact k1 H1 s01
    · have hc : z = 0 := ne_no hc
      rw [if_neg (fun q => q hc)] at k1
      obtain ⟨hle1, hx1⟩ := rd_at st1
      generalize hl1 : l.drop (l.length % 8) = l1 at *
      have hl18 : l1.length % 8 = 0 := by rw [← hl1, List.length_drop]; omega
      have hq1 := s01.seq hI.1
      refine ⟨_, rfl, R.r, A.c_BitReader, R.dr, _, _, rfl, hx1, T.l_BitReader, T.n_BitReader_data, rfl, _, rfl, R.r, A.c_BitReader, R.dr, _, _, rfl, hx1, T.l_BitReader, T.n_BitReader_place, rfl, _, _, rfl, rfl, ⟨by decide, by decide⟩, _, rfl, R.q, _, rfl, hq1, fun p hp => ?_⟩
      have e1 : ((8 * R.B.length - l1.length : Nat) : Int) / 8 = ((R.B.length - l1.length / 8 : Nat) : Int) := by omega
      have e2 : cutV (vN (bn R.B)) none (some (((8 * R.B.length - l1.length : Nat) : Int) / 8)) = vN (bn (R.B.take (R.B.length - l1.length / 8))) := by rw [e1, vN_to, bn_take]
      rw [e2]
      have s2 := same_new (o := .lst (vN (bn (R.B.take (R.B.length - l1.length / 8))))) hp
      refine ⟨p, _, rfl, SqL.of upd_same, bn_lt _, ?_⟩
      have ec : crcP (bn (R.B.take (R.B.length - l1.length / 8))) = Sound.crc16 (R.B.take (R.B.length - l1.length / 8)) := crc_eq _
      rw [ec]
      have st2 := st1.same s2
      have s02 := s01.trans s2
      obtain ⟨sh2, hIh2⟩ := hI.hid s02
      obtain ⟨i2, hx2⟩ := st2.obj
      generalize upd H1 p (.lst (vN (bn (R.B.take (R.B.length - l1.length / 8))))) = H2 at *
      refine ⟨_, rfl, R.r, R.dr, _, rfl, hx2, rfl, Wg.hid [R.r] H2, R, 16, l1, rfl, hid_same _ _, hIh2, st2, by decide, k1.seqL sh2 fun c l3 H3 e3 s3 st3 k3 => ?_⟩
      obtain ⟨rfl, hl16⟩ := u_drop e3
      obtain ⟨hle3, hx3⟩ := rd_at st3
      have s03 := sh2.trans s3
      refine ⟨_, rfl, rfl, _, rfl, ?_⟩
      refine ite2 (fun hc2 => ?_) fun hc2 => ?_
      · have hc2 : c ≠ Sound.crc16 (R.B.take (R.B.length - l1.length / 8)) := ne_yes hc2
        rw [if_pos hc2] at k3
        exact k3 H3 s03
      · have hc2 : c = Sound.crc16 (R.B.take (R.B.length - l1.length / 8)) := ne_no hc2
        rw [if_neg (fun q => q hc2)] at k3
        refine k3 H3 s03 st3 ?_
        rw [hx3, List.length_drop]
        congr 6; omega
def ftf (s k n d : V) : List (Str × V) := [("size", s), ("k", k), ("n", n), ("numbers", d)]
def IsFr (C : Addr) (H : Hp) (o : Addr) (x : Sound.Frame) : Prop := ∃ dx D, H o = some (.ins C dx (ftf (.int x.size) (.int x.k) (.int x.n) (.ref D))) ∧ H D = some (.lst (x.s.map V.int))
def spFT (C : Addr) : Sp := fun vs H Q _ => ∃ (p dx : Addr) (a b c d : V), vs = [.ref p, a, b, c, d] ∧ H p = some (.ins C dx []) ∧ Q .non (upd H p (.ins C dx (ftf a b c d)))
theorem sc_FrameTaken_init : FnScope ["self", "size", "k", "n", "numbers"] ["self", "size", "k", "n", "numbers"] (defScope s_FrameTaken_init) := ⟨rfl, rfl, rfl, by decide +kernel, rfl, by decide +kernel, by decide +kernel⟩
theorem ok_FrameTaken_init (T : Txt K mg A) : FnOk P w K mg base CX0 1 A.f_FrameTaken_init A.d_FrameTaken_init ["self", "size", "k", "n", "numbers"] (spFT A.c_FrameTaken) := by
  refine T.F_FrameTaken_init.ok sc_FrameTaken_init (fun vs H Q E h => ?_) (fun cdv Ar outer s H vs Q E hr h => ?_)
  · obtain ⟨p, dx, a, b, c, d, rfl, _⟩ := h
    rfl
  · obtain ⟨p, dx, a, b, c, d, rfl, hp, k⟩ := h
    refine ⟨_, pss_cons (ps_fld (pv 0) (pv 1) rfl) (pss_cons (ps_fld (pv 0) (pv 2) rfl) (pss_cons (ps_fld (pv 0) (pv 3) rfl) (pss_one (ps_fld (pv 0) (pv 4) rfl)))), ?_⟩
    refine ⟨_, rfl, _, rfl, p, A.c_FrameTaken, dx, [], rfl, hp, T.l_FrameTaken, T.n_FrameTaken_size, (by show 0 < 1000; decide), ?_⟩
    refine ⟨_, rfl, _, rfl, p, A.c_FrameTaken, dx, _, rfl, upd_same, T.l_FrameTaken, T.n_FrameTaken_k, (by show 1 < 1000; decide), ?_⟩
    refine ⟨_, rfl, _, rfl, p, A.c_FrameTaken, dx, _, rfl, upd_same, T.l_FrameTaken, T.n_FrameTaken_n, (by show 2 < 1000; decide), ?_⟩
    refine ⟨_, rfl, _, rfl, p, A.c_FrameTaken, dx, _, rfl, upd_same, T.l_FrameTaken, T.n_FrameTaken_numbers, (by show 3 < 1000; decide), ?_⟩
    rw [upd_upd, upd_upd, upd_upd]
    exact k
theorem pairS_len {d n m : Nat} {l l' : Sound.Bits} {ps : List (Int × Int)} (h : pairS d n m l = .ok ps l') : ps.length = n := by
  unfold pairS at h
  obtain ⟨a, l1, e1, h⟩ := then_ok h
  obtain ⟨b, l2, e2, h⟩ := then_ok h
  cases h
  rw [List.length_zipWith, part_len e1, part_len e2]; omega
theorem chans_len {F : Sound.Form} {n : Nat} : ∀ {ms : List Nat} {acc cs : List (List Int)} {l l' : Sound.Bits}, Sound.takeChannels F n ms acc l = .ok cs l' → (∀ c ∈ acc, c.length = n) → (∀ c ∈ cs, c.length = n) ∧ cs.length ≤ acc.length + 2 * ms.length + 1
  | [], acc, cs, l, l', h, ha => by
    unfold Sound.takeChannels at h
    split at h
    · obtain ⟨y, l1, e1, h⟩ := then_ok h
      cases h
      refine ⟨fun c hc => ?_, by rw [List.length_append]; show _ + 1 ≤ _; omega⟩
      rcases List.mem_append.mp hc with hc | hc
      · exact ha c hc
      · rw [List.mem_singleton.mp hc]; exact part_len e1
    · cases h
      exact ⟨ha, by omega⟩
  | m :: ms, acc, cs, l, l', h, ha => by
    rw [chan_cons] at h
    obtain ⟨ps, l1, e1, h⟩ := then_ok h
    have hp := pairS_len e1
    obtain ⟨h1, h2⟩ := chans_len h (fun c hc => by
      rcases List.mem_append.mp hc with hc | hc
      · exact ha c hc
      · rcases List.mem_cons.mp hc with rfl | hc
        · rw [List.length_map]; exact hp
        · rw [List.mem_singleton.mp hc, List.length_map]; exact hp)
    refine ⟨h1, ?_⟩
    rw [List.length_append] at h2
    have h2 : cs.length ≤ acc.length + 2 + 2 * ms.length + 1 := h2
    rw [List.length_cons]; omega
theorem woven_eq : ∀ (n : Nat) (cs : List (List Int)), Sound.woven n cs = (List.range n).flatMap fun t => cs.map fun (c : List Int) => c.getD t 0
  | 0, cs => rfl
  | n + 1, cs => by
    unfold Sound.woven
    rw [woven_eq n, List.range_succ_eq_map, List.flatMap_cons, List.flatMap_map]
    congr 1
    · refine List.map_congr_left fun c _ => ?_
      cases c <;> rfl
    · congr 1
      funext t
      rw [List.map_map]
      refine List.map_congr_left fun c _ => ?_
      cases c <;> simp
theorem woven_take (cs : List (List Int)) (t : Nat) : ((List.range (t + 1)).flatMap fun t => cs.map fun (c : List Int) => c.getD t 0) = ((List.range t).flatMap fun t => cs.map fun (c : List Int) => c.getD t 0) ++ cs.map fun (c : List Int) => c.getD t 0 := by
  rw [List.range_succ, List.flatMap_append]
  congr 1
  rw [List.flatMap_cons, List.flatMap_nil, List.append_nil]
theorem woven_len (cs : List (List Int)) : ∀ n, (Sound.woven n cs).length = n * cs.length
  | 0 => by rw [Nat.zero_mul]; rfl
  | n + 1 => by
    have h := woven_len cs n
    rw [woven_eq] at h ⊢
    rw [woven_take, List.length_append, h, List.length_map, Nat.add_mul, Nat.one_mul]
theorem frame_is (F : Sound.Form) (B : Sound.Bytes) : Sound.takeFrame F B = (Sound.takeU 16 (Sound.bitsOf B)).then_ fun (x : Nat) (l : Sound.Bits) => if x ≠ 0x4B57 then .bad else
    (Sound.takeU 20 l).then_ fun (k : Nat) (l : Sound.Bits) => (Sound.takeU 8 l).then_ fun (n : Nat) (l : Sound.Bits) => if F.block < n + 1 then .bad else
    ((Sound.takeMany (fun (_ : List Nat) (l : Sound.Bits) => Sound.takeU 2 l) (Sound.pairs F) [] l).then_ fun (ms : List Nat) (l : Sound.Bits) => Sound.takeChannels F (n + 1) ms.reverse [] l).then_ fun (cs : List (List Int)) (l : Sound.Bits) => (endS B l).then_ fun (z : Nat) (l : Sound.Bits) => .ok ⟨k, n + 1, Sound.woven (n + 1) cs, z⟩ l := by
  unfold Sound.takeFrame
  congr 1
  funext x l
  split
  · rfl
  · congr 1
    funext k l
    congr 1
    funext n l
    split
    · rfl
    · rw [then_assoc]
      congr 1
      funext ms l
      congr 1
      funext cs l
      unfold endS
      rw [then_assoc]
      congr 1
      funext z l
      split
      · rfl
      · show ((Sound.takeU 16 l).then_ fun (c : Nat) (l' : Sound.Bits) => if c ≠ Sound.crc16 (B.take (B.length - l.length / 8)) then (.bad : Sound.Got Sound.Frame) else .ok (⟨k, n + 1, Sound.woven (n + 1) cs, B.length - l.length / 8 + 2⟩ : Sound.Frame) l') = _
        rw [then_assoc]
        congr 1
        funext c l'
        split <;> rfl
def spItems (K : PySem.W.Frag) (A : Adr) : Sp := fun vs H Q E => ∃ (H0 : Hp) (R : Rdr) (f : Addr) (F : Sound.Form), vs = [.ref f, .ref R.r] ∧ Same H0 H ∧ RdI K H0 R ∧ IsFm A.c_Form H0 f F ∧ RdS A.c_BitReader H R (Sound.bitsOf R.B) ∧ F.ok = true ∧
  GotQ A H0 R (Sound.takeFrame F R.B) (fun x H' => ∀ o, H0 o = none → IsFr A.c_FrameTaken H' o x → Q (.ref o) H') E
theorem sc_read_items : FnScope ["form", "reader", "k", "n", "channels", "numbers", "t", "channel"] ["form", "reader"] (defScope s_read_items) := ⟨rfl, rfl, rfl, by decide +kernel, rfl, by decide +kernel, by decide +kernel⟩
theorem ok_read_items (T : Txt K mg A) : FnOk P w K mg base (CX1 P w) 12 A.f_read_items A.d_read_items ["form", "reader"] (spItems K A) := by
  refine T.F_read_items.okE sc_read_items (fun vs H Q E h => ?_) (fun cdv Ar outer s H vs Q E hr h => ?_)
  · obtain ⟨H0, R, f, F, rfl, _⟩ := h
    rfl
  · obtain ⟨H0, R, f, F, rfl, s0, hI, hF, hS, hok, k⟩ := h
    have hr1' : Room 1 _ := hr.mono (by decide)
    have hr2' : Room 2 _ := hr.mono (by decide)
    refine ⟨_, pss_cons (ps_if (pt_cmpR op_ne (pe_meth (pv 1) T.l_BitReader T.e_BitReader_unsigned (ok_BitReader_unsigned T) hr1' T.b_BitReader_unsigned .nil passes1 (pa_cons pe_int pa_nil)) (pe_gi rfl T.g_MARK_frames) (nomark _)) (pss_one (ps_raise rfl rfl T.m_Wrong T.x_Wrong.exc raise1)) pss_nil)
      (pss_cons (ps_set (i := 2) sc_read_items.nd rfl (Or.inl rfl) (pe_meth (pv 1) T.l_BitReader T.e_BitReader_unsigned (ok_BitReader_unsigned T) hr1' T.b_BitReader_unsigned .nil passes1 (pa_cons pe_int pa_nil)))
      (pss_cons (ps_set (i := 3) sc_read_items.nd rfl (Or.inl rfl) (pe_op op_add (pe_meth (pv 1) T.l_BitReader T.e_BitReader_unsigned (ok_BitReader_unsigned T) hr1' T.b_BitReader_unsigned .nil passes1 (pa_cons pe_int pa_nil)) pe_int))
      (pss_cons (ps_if (pt_cmpR op_gt (pv 3) (pe_fld (pv 0) rfl) (nomark _)) (pss_one (ps_raise rfl rfl T.m_Wrong T.x_Wrong.exc raise1)) pss_nil)
      (pss_cons (ps_set (i := 4) sc_read_items.nd rfl (Or.inl rfl) (pe_call (ok_read_channels T) hr rfl T.m_read_channels T.F_read_channels.kp T.b_read_channels .nil passes1 (pa_cons (pv 0) (pa_cons (pv 3) (pa_cons (pv 1) pa_nil)))))
      (pss_cons (ps_expr (pe_call (ok_read_end T) hr2' rfl T.m_read_end T.F_read_end.kp T.b_read_end .nil passes1 (pa_cons (pv 1) pa_nil)))
      (pss_cons (ps_set (i := 5) sc_read_items.nd rfl (Or.inl rfl) (pe_lst pa_nil))
      (pss_cons (ps_for PassesOwn.leaving rfl (pi_range1 rfl T.z_range (pa_cons (pv 3) pa_nil)) (pg_name (i := 6) sc_read_items.nd rfl (Or.inr rfl))
        (pss_one (ps_expr (pe_bm PySem.F.plainAttrs_list PySem.F.slot_list_extend PySem.F.type_list_extend mt_extend (pv 5) (pa_cons (pe_lc (own := [("channel", 7)]) rfl sc_read_items.nd (pi_list (pv 4)) (blkOk_by (by kernel_rfl)) (fun _ _ _ _ _ => pg_name (i := 7) sc_read_items.nd rfl (Or.inl rfl)) (fun _ _ _ _ _ => pts_nil) (fun _ _ _ _ _ => pe_ix (ixL (K := K) rfl) (pv 7) (pv 6) (fun _ _ => rfl))) pa_nil)))))
      (pss_one (ps_ret (pe_make T.k_FrameTaken (ok_FrameTaken_init T) hr2' rfl T.m_FrameTaken T.b_FrameTaken_init .nil pass0 (pa_cons (pe_op op_fdiv (pe_fld (pv 1) rfl) pe_int) (pa_cons (pv 2) (pa_cons (pv 3) (pa_cons (pv 5) pa_nil)))))))))))))), ?_⟩
    obtain ⟨⟨hc1, hc2⟩, _, ⟨hb1, hb2⟩, _⟩ := form_bd hok
    have e62 : (2 : Int) ^ 62 = 4611686018427387904 := by decide
    obtain ⟨df, hf⟩ := id hF
    obtain ⟨i0, hx⟩ := hS.obj
    obtain ⟨sh, hIh⟩ := hI.hid s0
    rw [frame_is] at k
    refine ⟨_, rfl, R.r, R.dr, _, rfl, hx, rfl, Wg.hid [R.r] H, R, 16, _, rfl, hid_same _ _, hIh, hS, by decide, k.seqL sh fun x l1 H1 _ s1 st1 k1 => ?_⟩
    have s01 := sh.trans s1
    refine ⟨rfl, _, rfl, ?_⟩
    refine ite2 (fun hc => ?_) fun hc => ?_
    · have hc : x ≠ 0x4B57 := ne_yes hc
      rw [if_pos hc] at k1
      exact k1 H1 s01
    have hc : x = 0x4B57 := ne_no hc
    rw [if_neg (fun q => q hc)] at k1
    obtain ⟨i1, hx1⟩ := st1.obj
    obtain ⟨sh1, hIh1⟩ := hI.hid s01
    refine ⟨_, rfl, R.r, R.dr, _, rfl, hx1, rfl, Wg.hid [R.r] H1, R, 20, _, rfl, hid_same _ _, hIh1, st1, by decide, k1.seqL sh1 fun kk l2 H2 _ s2 st2 k2 => ?_⟩
    have s02 := sh1.trans s2
    obtain ⟨i2, hx2⟩ := st2.obj
    obtain ⟨sh2, hIh2⟩ := hI.hid s02
    refine ⟨_, rfl, R.r, R.dr, _, rfl, hx2, rfl, Wg.hid [R.r] H2, R, 8, _, rfl, hid_same _ _, hIh2, st2, by decide, k2.seqL sh2 fun n l3 H3 e3 s3 st3 k3 => ?_⟩
    have s03 := sh2.trans s3
    have hn8 : n < 256 := u_lt e3
    refine ⟨_, _, rfl, rfl, ?_⟩
    dsimp only
    rw [show ((n : Nat) : Int) + 1 = ((n + 1 : Nat) : Int) by omega]
    have hf3 := s03 _ _ hf
    refine ⟨_, rfl, _, rfl, f, A.c_Form, df, _, _, rfl, hf3, T.l_Form, T.n_Form_block, rfl, _, _, rfl, rfl, _, rfl, ?_⟩
    refine ite2 (fun hcb => ?_) fun hcb => ?_
    · have hcb : ((F.block : Nat) : Int) < ((n + 1 : Nat) : Int) := of_decide_eq_true hcb
      rw [if_pos (by omega)] at k3
      exact k3 H3 s03
    have hcb : ¬ ((F.block : Nat) : Int) < ((n + 1 : Nat) : Int) := fun q => hcb (decide_eq_true q)
    rw [if_neg (by omega)] at k3
    refine ⟨_, rfl, _, rfl, _, rfl, H0, R, f, F, n + 1, l3, rfl, s03, hI, hF, st3, ⟨hok, by omega⟩, k3.seq fun cs l4 H4 e4 s4 st4 k4 C4 hC40 hCh => ?_⟩
    have hcs : (∀ c ∈ cs, c.length = n + 1) ∧ cs.length ≤ 10 := by
      obtain ⟨ms, l5, e5, e6⟩ := then_ok e4
      have h1 := many_len e5
      obtain ⟨h2, h3⟩ := chans_len e6 (fun c hc => by cases hc)
      rw [List.length_reverse, h1] at h3
      unfold Sound.pairs at h3
      have h3 : cs.length ≤ 0 + 2 * (0 + F.channels / 2) + 1 := h3
      exact ⟨h2, by omega⟩
    obtain ⟨sh4, hIh4⟩ := hI.hid s4
    refine ⟨_, rfl, Wg.hid [R.r] H4, R, l4, rfl, hid_same _ _, hIh4, st4, k4.seqL sh4 fun z l5 H5 _ s5 st5 k5 hx5 => ?_⟩
    have hCh5 := hCh.hid st4 s5
    have s05 := sh4.trans s5
    refine ⟨by rw [sizeLine_eq]; show 0 ≤ _; omega, fun D hD => ?_⟩
    have s6 := same_new (o := .lst []) hD
    have hD0 : H0 D = none := s05.none hD
    refine ⟨_, rfl, ((n + 1 : Nat) : Int), rfl, by omega, by omega, ?_⟩
    rw [Int.toNat_natCast]
    have hx6 := s6 _ _ hx5
    have hCh6 := hCh5.same s6
    have st6 := st5.same s6
    have s06 := s05.trans s6
    have nDC : C4 ≠ D := fun q => by
      obtain ⟨as, h1, _⟩ := hCh5
      rw [q, hD] at h1; cases h1
    have nAs : ∀ as : List Addr, H5 C4 = some (.lst (as.map V.ref)) → True := fun _ _ => trivial
    refine for_range (lo := 0) (n := n + 1) (fun t σ H' => (Same H0 H' ∧ RdS A.c_BitReader H' R l5 ∧ H' R.r = some (.ins A.c_BitReader R.dr (brf (.ref R.q) (.int ((8 * z : Nat) : Int)))) ∧ Same H5 (Wg.hid [D] H') ∧ H' D = some (.lst ((Sound.woven t cs).map V.int))) ∧ ∃ v6 v7 : Option V, σ = [some (.ref f), some (.ref R.r), some (.int (kk : Nat)), some (.int ((n + 1 : Nat) : Int)), some (.ref C4), some (.ref D), v6, v7])
      ⟨⟨s06, st6, hx6, s6.hid (fun b hb => by rw [List.mem_singleton.mp hb]; exact hD), upd_same⟩, none, none, rfl⟩ ?_ ?_
    · rintro t σ H7 ht ⟨⟨s7, st7, hx7, sh7, hD7⟩, v6, v7, rfl⟩
      have hCh7 : ChI H7 C4 cs := (hCh5.same sh7).same (hid_same _ _)
      obtain ⟨as, ha1, ha2, ha3⟩ := id hCh7
      have hwl := woven_len cs t
      have hwl2 : t * cs.length ≤ 256 * 10 := Nat.mul_le_mul (by omega) hcs.2
      refine ⟨_, rfl, .inl ⟨rfl, _, SqL.of hD7⟩, _, rfl, C4, rfl, ⟨_, SqL.of ha1⟩, fun D2 hD2 => ?_⟩
      refine lc_val (J := Itl K C4) hD2 cs.length (by rw [sizeLine_eq]; omega) (fun i => .int ((cs.getD i []).getD t 0)) (fun i Hh hi t1 => ?_) (fun Hh t1 => ⟨_, t1.seq (SqL.of ha1), by rw [List.length_map]; omega⟩) ?_ ?_
      · obtain ⟨a, h1, _⟩ := ref_get (as := as) (i := i) (by omega)
        exact ⟨_, _, t1.seq (SqL.of ha1), h1⟩
      · rintro i Hh y H8 hi t1 ⟨rfl, hy⟩ C hC
        obtain ⟨a, rfl, hai⟩ := ref_get' (hy _ (t1.seq (SqL.of ha1)))
        have hci : (cs.getD i []).length = n + 1 := hcs.1 _ (by rw [List.getD_eq_getElem?_getD, List.getElem?_eq_getElem hi]; exact List.getElem_mem hi)
        refine ⟨rfl, _, rfl, _, rfl, a, _, _, _, rfl, rfl, SqL.of (t1 _ _ (ha3 i a hai).2), ?_, hC _ (Same.refl _)⟩
        rw [Int.zero_add]
        exact atI_nat (int_get (by omega))
      · intro H8 s8 hx8
        have e8 : (List.range cs.length).map (fun i => V.int ((cs.getD i []).getD t 0)) = (cs.map fun c => c.getD t 0).map V.int := by
          rw [List.map_map]
          refine List.ext_getElem (by simp) fun i h1 h2 => ?_
          simp at h2
          simp [List.getD_eq_getElem?_getD, List.getElem?_eq_getElem h2]
        rw [e8] at hx8
        have hD8 := s8 _ _ hD7
        refine ⟨D, D2, _, _, rfl, rfl, hD8, hx8, (by rw [List.length_map, List.length_map, List.length_map, hwl, sizeLine_eq]; omega), ⟨⟨same_keep (s7.trans s8) hD0, ?_, ?_, ?_, ?_⟩, some (.int (0 + (t : Nat))), v7, rfl⟩⟩
        · obtain ⟨j, ej, hj, hxr⟩ := st7
          exact ⟨j, ej, hj, by rw [upd_ne (fun q => by rw [q, hD7] at hxr; cases hxr)]; exact s8 _ _ hxr⟩
        · rw [upd_ne (fun q => by rw [q, hD7] at hx7; cases hx7)]; exact s8 _ _ hx7
        · intro b o e
          have e7 := sh7 b o e
          have nb : b ≠ D := fun q => by rw [q, hid_in (by simp)] at e7; cases e7
          rw [hid_out (by simpa using nb), upd_ne nb]
          exact s8 _ _ (hid_same _ _ _ _ e7)
        · rw [upd_same, woven_eq, woven_eq, woven_take, List.map_append]
    · rintro σ H7 ⟨⟨s7, st7, hx7, sh7, hD7⟩, v6, v7, rfl⟩
      refine ⟨_, rfl, R.r, A.c_BitReader, R.dr, _, _, rfl, hx7, T.l_BitReader, T.n_BitReader_place, rfl, _, _, rfl, rfl, ⟨by decide, by decide⟩, _, rfl, _, rfl, _, rfl, fun o dx ho hdx hne => ⟨o, dx, _, _, _, _, rfl, upd_same, rfl, ?_⟩⟩
      rw [upd_made]
      have s8 : Same H7 (upd (upd H7 dx (.own o)) o (.ins A.c_FrameTaken dx (ftf (.int (((8 * z : Nat) : Int) / 8)) (.int (kk : Nat)) (.int ((n + 1 : Nat) : Int)) (.ref D)))) := same_made ho hdx
      refine k5 _ (s7.trans s8) (st7.same s8) o (s7.none ho) ⟨dx, D, ?_, s8 _ _ hD7⟩
      rw [upd_same]
      congr 5
      show ((8 * z : Nat) : Int) / 8 = ((z : Nat) : Int)
      omega
theorem slK {X : Cx} {K : PySem.W.Frag} (h : X.K = K) : SlR X (rSlL K) := by subst h; exact sl_list
theorem takeFrame_len {F : Sound.Form} {B : Sound.Bytes} {x : Sound.Frame} {l : Sound.Bits} (hok : F.ok = true) (h : Sound.takeFrame F B = .ok x l) : x.s.length ≤ 2560 := by
  rw [frame_is] at h
  obtain ⟨m, l1, _, h⟩ := then_ok h
  split at h
  · cases h
  obtain ⟨k, l2, _, h⟩ := then_ok h
  obtain ⟨n, l3, e3, h⟩ := then_ok h
  have hn8 : n < 256 := u_lt e3
  split at h
  · cases h
  obtain ⟨cs, l4, e4, h⟩ := then_ok h
  obtain ⟨z, l5, _, h⟩ := then_ok h
  cases h
  obtain ⟨ms, l6, e5, e6⟩ := then_ok e4
  have h1 := many_len e5
  obtain ⟨h2, h3⟩ := chans_len e6 (fun c hc => by cases hc)
  rw [List.length_reverse, h1] at h3
  unfold Sound.pairs at h3
  have h3 : cs.length ≤ 0 + 2 * (0 + F.channels / 2) + 1 := h3
  obtain ⟨⟨hc1, hc2⟩, _⟩ := form_bd hok
  show (Sound.woven (n + 1) cs).length ≤ _
  rw [woven_len]
  exact Nat.mul_le_mul (n₁ := n + 1) (n₂ := 256) (m₁ := cs.length) (m₂ := 10) (by omega) (by omega)
theorem unframe_len {F : Sound.Form} {B : Sound.Bytes} {x : Sound.Frame} (hok : F.ok = true) (h : Sound.unframe F B = .frame x) : x.s.length ≤ 2560 := by
  unfold Sound.unframe at h
  split at h
  · rename_i e; cases h; exact takeFrame_len hok e
  · cases h
  · split at h <;> cases h
def readQ (A : Adr) (H : Hp) (r : Sound.Read) (Q : VK) (E : XK) : Prop := match r with
  | .frame x => ∀ o H', H o = none → Same H H' → IsFr A.c_FrameTaken H' o x → Q (.ref o) H'
  | .bad => ∀ H', Same H H' → E (.ref A.c_Wrong) none H'
  | .short => ∀ H', Same H H' → E (.ref A.c_Short) none H'
def spRF (K : PySem.W.Frag) (A : Adr) : Sp := fun vs H Q E => ∃ (f q : Addr) (F : Sound.Form) (B : Sound.Bytes), vs = [.ref f, .ref q] ∧ IsFm A.c_Form H f F ∧ SqL K H q (vN (bn B)) ∧ F.ok = true ∧ readQ A H (Sound.unframe F B) Q E
theorem sc_read_frame : FnScope ["form", "data"] ["form", "data"] (defScope s_read_frame) := ⟨rfl, rfl, rfl, by decide +kernel, rfl, by decide +kernel, by decide +kernel⟩
theorem ok_read_frame (T : Txt K mg A) : FnOk P w K mg base (CX1 P w) 13 A.f_read_frame A.d_read_frame ["form", "data"] (spRF K A) := by
  refine T.F_read_frame.okE sc_read_frame (fun vs H Q E h => ?_) (fun cdv Ar outer s H vs Q E hr h => ?_)
  · obtain ⟨f, q, F, B, rfl, _⟩ := h
    rfl
  · obtain ⟨f, q, F, B, rfl, hF, hq, hok, k⟩ := h
    have hr2' : Room 2 _ := hr.mono (by decide)
    refine ⟨_, pss_one (ps_try rfl rfl rfl (fun E pn xe hp ho => pss_one (ps_ret (pe_callS (ok_read_items T) hr rfl T.m_read_items T.F_read_items.kp T.b_read_items .nil hp (pa_cons (pv 0) (pa_cons (pe_make T.k_BitReader (ok_BitReader_init T) hr2' rfl T.m_BitReader T.b_BitReader_init .nil pass0 (pa_cons (pe_slice (slK (K := K) rfl) (pv 1) po_none (po_some (pe_gi rfl T.g_LONGEST))) pa_nil)) pa_nil)))))
      (clause1P rfl air1 T.x_Short rfl T.m_Short (fun x ps n hpc => pss_cons (ps_if (pt_cmpR op_ge (pe_callB (lenK (K := K) rfl) (by rfl) T.z_len PySem.boot_len (pa_cons (pv 1) pa_nil)) (pe_gi rfl T.g_LONGEST) (nomark _)) (pss_one (ps_raiseN (hnd_mrk hpc) rfl T.m_Wrong T.x_Wrong.exc (raiseM hr.hd rfl rfl rfl air1))) pss_nil)
        (pss_one (ps_raiseN (hnd_mrk hpc) rfl T.m_Short T.x_Short.exc (raiseM hr.hd rfl rfl rfl air1)))))), ?_⟩
    refine ⟨_, rfl, _, rfl, _, rfl, q, _, rfl, hq, fun p hp => ?_⟩
    have e0 : cutV (vN (bn B)) none (some 4096) = vN (bn (B.take 4096)) := by
      rw [show (4096 : Int) = ((4096 : Nat) : Int) from rfl, vN_to, bn_take]
    rw [e0]
    have s1 := same_new (o := .lst (vN (bn (B.take 4096)))) hp
    have hx1 : upd H p (.lst (vN (bn (B.take 4096)))) p = some (.lst (vN (bn (B.take 4096)))) := upd_same
    generalize upd H p (.lst (vN (bn (B.take 4096)))) = H1 at *
    intro o dx ho hdx hne
    refine ⟨o, dx, _, rfl, upd_same, rfl, ?_⟩
    rw [upd_made]
    have s2 : Same H1 (upd (upd H1 dx (.own o)) o (.ins A.c_BitReader dx (brf (.ref p) (.int 0)))) := same_made ho hdx
    refine ⟨H1, ⟨o, dx, p, B.take 4096⟩, f, F, rfl, s2, ⟨SqL.of hx1, ho, by rw [List.length_take]; omega⟩, hF.same s1, ⟨0, rfl, by omega, upd_same⟩, hok, ?_⟩
    unfold Sound.unframe at k
    show GotQ A H1 _ (Sound.takeFrame F (B.take Sound.LONGEST)) _ _
    cases e : Sound.takeFrame F (B.take Sound.LONGEST) with
    | ok x l =>
      rw [e] at k
      exact fun H' s3 _ o' ho' hI => k o' H' (s1.none ho') (s1.trans s3) hI
    | bad =>
      rw [e] at k
      exact fun H' s3 => .inr ⟨⟨_, rfl, T.x_Wrong⟩, fun z => T.d_Short_Wrong.symm (by injection z), k H' (s1.trans s3)⟩
    | short =>
      rw [e] at k
      dsimp only at k
      refine fun H' s3 => .inl ⟨rfl, ?_⟩
      have hq' := (s1.trans s3).seq hq
      refine ⟨_, rfl, q, _, rfl, .inl hq', _, _, rfl, rfl, _, rfl, ?_⟩
      rw [vN_len, bn_len]
      refine ite2 (fun hc => ?_) fun hc => ?_
      · have hc : (4096 : Int) ≤ ((B.length : Nat) : Int) := of_decide_eq_true hc
        rw [if_pos (show Sound.LONGEST ≤ B.length by show 4096 ≤ _; omega)] at k
        exact k H' (s1.trans s3)
      · have hc : ¬ (4096 : Int) ≤ ((B.length : Nat) : Int) := fun q => hc (decide_eq_true q)
        rw [if_neg (show ¬ Sound.LONGEST ≤ B.length by show ¬ 4096 ≤ _; omega)] at k
        exact k H' (s1.trans s3)
def bytesI (l : List Int) : Sound.Bytes := SoNeutral.bytes l
theorem bytesI_vals {l : List Int} (h : ∀ x ∈ l, 0 ≤ x ∧ x ≤ 255) : l.map V.int = vN (bn (bytesI l)) := by
  unfold vN bn bytesI SoNeutral.bytes
  rw [List.map_map, List.map_map]
  refine List.map_congr_left fun x hx => ?_
  obtain ⟨h1, h2⟩ := h x hx
  show V.int x = V.int (((UInt8.ofNat x.toNat).toNat : Nat) : Int)
  rw [UInt8.toNat_ofNat', Nat.mod_eq_of_lt (by omega)]
  congr 1; omega
theorem bytesI_len (l : List Int) : (bytesI l).length = l.length := by unfold bytesI SoNeutral.bytes; rw [List.length_map]
theorem notLong {l : List Int} (hl : l.length ≤ 16384) : Sound.tooLong (bytesI l) = false := by
  unfold Sound.tooLong Sound.FILE
  rw [bytesI_len]; exact decide_eq_false (by omega)
def nats' (l : List Int) : List Nat := l.map Int.toNat
theorem vN_nats {fm : List Int} (h : ∀ z ∈ fm, 0 ≤ z) : fm.map V.int = vN (nats' fm) := by
  unfold vN nats'
  rw [List.map_map]
  refine List.map_congr_left fun z hz => ?_
  have := h z hz
  show V.int z = V.int (z.toNat : Nat)
  congr 1; omega
theorem form_is {l : List Nat} {F : Sound.Form} (h : Sound.formOf l = some F) : l = [F.channels, F.depth, F.block, F.order, F.group, F.spare] ∧ F.ok = true := by
  unfold Sound.formOf at h
  split at h
  · simp only at h
    split at h
    · rename_i hok
      cases h
      exact ⟨rfl, hok⟩
    · cases h
  · cases h
theorem unf_none {fm data : List Int} (h : Sound.formOf (nats' fm) = none) : PyWqaubg.unframe fm data = [-1] := by
  show Sound.ofForm (nats' fm) _ = _
  unfold Sound.ofForm
  rw [h]; rfl
theorem unf_some {fm data : List Int} {F : Sound.Form} (h : Sound.formOf (nats' fm) = some F) (hl : data.length ≤ 16384) : PyWqaubg.unframe fm data = match Sound.unframe F (bytesI data) with
    | .bad => [-3]
    | .short => [-2]
    | .frame x => [(x.size : Int), (x.k : Int), (x.n : Int)] ++ x.s := by
  have e : PyWqaubg.unframe fm data = Sound.ofForm (nats' fm) (fun f => if Sound.tooLong (bytesI data) = true then [-1] else match Sound.unframe f (bytesI data) with
    | .bad => [-3]
    | .short => [-2]
    | .frame x => [(x.size : Int), (x.k : Int), (x.n : Int)] ++ x.s) := rfl
  rw [e]
  unfold Sound.ofForm
  rw [h]
  dsimp only
  rw [notLong hl, if_neg (by decide)]
def spUnf (K : PySem.W.Frag) : Sp := fun vs H Q _ => ∃ (b q : Addr) (fm data : List Int), vs = [.ref b, .ref q] ∧ SqL K H b (fm.map V.int) ∧ SqL K H q (data.map V.int) ∧ (∀ z ∈ fm, 0 ≤ z) ∧ fm.length ≤ 8 ∧ data.length ≤ 16384 ∧ (∀ x ∈ data, 0 ≤ x ∧ x ≤ 255) ∧ ∀ (H' : Hp) (p : Addr), H' p = some (.lst ((PyWqaubg.unframe fm data).map V.int)) → Q (.ref p) H'
theorem sc_unframe : FnScope ["form", "data", "taken"] ["form", "data"] (defScope s_unframe) := ⟨rfl, rfl, rfl, by decide +kernel, rfl, by decide +kernel, by decide +kernel⟩
theorem ok_unframe (T : Txt K mg A) : FnOk P w K mg base CX0 14 A.f_unframe A.d_unframe ["form", "data"] (spUnf K) := by
  refine T.F_unframe.ok sc_unframe (fun vs H Q E h => ?_) (fun cdv Ar outer s H vs Q E hr h => ?_)
  · obtain ⟨b, q, fm, data, rfl, _⟩ := h
    rfl
  · obtain ⟨b, q, fm, data, rfl, hb, hq, hfm, hfl, hdl, hd, k⟩ := h
    have hr1' : Room 1 _ := hr.mono (by decide)
    have hr2' : Room 2 _ := hr.mono (by decide)
    refine ⟨_, pss_cons (ps_if (pt_not (pt_val (pe_call (ok_is_form T) hr1' rfl T.m_is_form T.F_is_form.kp T.b_is_form .nil pass0 (pa_cons (pv 0) pa_nil)))) (pss_one (ps_ret (pe_lst (pa_cons (pe_un un_neg pe_int) pa_nil)))) pss_nil)
      (pss_cons (ps_try rfl rfl rfl (fun E pn xe hp ho => pss_one (ps_set (i := 2) sc_unframe.nd rfl (Or.inl rfl) (pe_callS (ok_read_frame T) hr rfl T.m_read_frame T.F_read_frame.kp T.b_read_frame .nil hp (pa_cons (pe_make T.k_Form (ok_Form_init T) hr2' rfl T.m_Form T.b_Form_init .nil pass0 (pa_cons (pv 0) pa_nil)) (pa_cons (pv 1) pa_nil)))))
        (clause2 rfl T.x_Wrong rfl T.m_Wrong (fun x ps n _ => pss_one (ps_ret (pe_lst (pa_cons (pe_un un_neg pe_int) pa_nil))))
          T.x_Short rfl T.m_Short (fun x ps n _ => pss_one (ps_ret (pe_lst (pa_cons (pe_un un_neg pe_int) pa_nil)))) T.d_Short_Wrong.symm))
      (pss_one (ps_ret (pe_op op_cat (pe_lst (pa_cons (pe_fld (pv 2) rfl) (pa_cons (pe_fld (pv 2) rfl) (pa_cons (pe_fld (pv 2) rfl) pa_nil)))) (pe_fld (pv 2) rfl))))), ?_⟩
    rw [vN_nats hfm] at hb
    rw [bytesI_vals hd] at hq
    refine ⟨_, rfl, b, _, rfl, hb, fun H1 s1 => ⟨_, rfl, ?_⟩⟩
    cases hform : Sound.formOf (nats' fm) with
    | none =>
      refine iteT ⟨1, rfl, (by rw [sizeLine_eq]; show 1 ≤ _; omega), fun p hp => k _ p (by rw [upd_same, unf_none hform]; rfl)⟩
    | some F =>
      obtain ⟨hl6, hok⟩ := form_is hform
      rw [unf_some hform hdl] at k
      generalize bytesI data = B at *
      refine iteF ?_
      rw [hl6] at hb
      refine ⟨_, rfl, fun x dx hx hdx hne => ?_⟩
      have sm : Same H1 (upd (upd H1 dx (.own x)) x (.ins A.c_Form dx [])) := same_made hx hdx
      refine ⟨x, dx, b, F.channels, F.depth, F.block, F.order, F.group, F.spare, rfl, upd_same, sm.seq (s1.seq hb), rfl, _, rfl, ?_⟩
      rw [upd_made]
      have s2 : Same H1 (upd (upd H1 dx (.own x)) x (.ins A.c_Form dx (fm6 (.int F.channels) (.int F.depth) (.int F.block) (.int F.order) (.int F.group) (.int F.spare)))) := same_made hx hdx
      have hF : IsFm A.c_Form (upd (upd H1 dx (.own x)) x (.ins A.c_Form dx (fm6 (.int F.channels) (.int F.depth) (.int F.block) (.int F.order) (.int F.group) (.int F.spare)))) x F := ⟨dx, upd_same⟩
      have s12 := s1.trans s2
      generalize upd (upd H1 dx (.own x)) x (.ins A.c_Form dx (fm6 (.int F.channels) (.int F.depth) (.int F.block) (.int F.order) (.int F.group) (.int F.spare))) = H2 at *
      refine ⟨x, q, F, B, rfl, hF, s12.seq hq, hok, ?_⟩
      unfold readQ
      cases e : Sound.unframe F B with
      | bad =>
        rw [e] at k
        exact fun H3 s3 => .inl ⟨rfl, 3, rfl, (by rw [sizeLine_eq]; show 1 ≤ _; omega), fun p hp => k _ p (by rw [upd_same]; rfl)⟩
      | short =>
        rw [e] at k
        exact fun H3 s3 => .inr ⟨rfl, 2, rfl, (by rw [sizeLine_eq]; show 1 ≤ _; omega), fun p hp => k _ p (by rw [upd_same]; rfl)⟩
      | frame y =>
        rw [e] at k
        dsimp only at k
        have hlen := unframe_len hok e
        rintro o H3 ho s3 ⟨dy, D, h1, h2⟩
        refine ⟨_, rfl, o, A.c_FrameTaken, dy, _, _, rfl, h1, T.l_FrameTaken, T.n_FrameTaken_size, rfl, _, rfl, o, A.c_FrameTaken, dy, _, _, rfl, h1, T.l_FrameTaken, T.n_FrameTaken_k, rfl, _, rfl, o, A.c_FrameTaken, dy, _, _, rfl, h1, T.l_FrameTaken, T.n_FrameTaken_n, rfl, (by rw [sizeLine_eq]; show 3 ≤ _; omega), fun p hp => ?_⟩
        have hD : D ≠ p := ne_of_none h2 hp
        have ho' : o ≠ p := ne_of_none h1 hp
        refine ⟨_, rfl, o, A.c_FrameTaken, dy, _, _, rfl, by rw [upd_ne ho']; exact h1, T.l_FrameTaken, T.n_FrameTaken_numbers, rfl, p, D, _, _, rfl, rfl, upd_same, by rw [upd_ne hD]; exact h2, by rw [sizeLine_eq, List.length_map]; show 3 + _ ≤ _; omega, fun p2 hp2 => k _ p2 ?_⟩
        rw [upd_same, List.map_append]
        rfl
end
end Wg
namespace PySem.W.Fast
theorem tw18018485313893264394:True:=⟨⟩
theorem tw11607454637773486684:True:=⟨⟩
theorem tw96400478501010053:True:=⟨⟩
theorem tw982665768256009622:True:=⟨⟩
theorem tw15781543407238219010:True:=⟨⟩
theorem tw4870203073699845479:True:=⟨⟩
theorem tw11796116263804145982:True:=⟨⟩
theorem tw16986438609385917905:True:=⟨⟩
theorem tw12143380457741759938:True:=⟨⟩
theorem tw8465755429238210379:True:=⟨⟩
theorem tw18092798877762966385:True:=⟨⟩
theorem tw10037229492977776411:True:=⟨⟩
theorem tw2655887669864737460:True:=⟨⟩
theorem tw7364666269222014512:True:=⟨⟩
theorem tw1887381298577469714:True:=⟨⟩
theorem tw14993092718646290573:True:=⟨⟩
theorem tw7557322272741716923:True:=⟨⟩
theorem tw5734275734185915457:True:=⟨⟩
theorem tw5274017208149498438:True:=⟨⟩
theorem tw6023838082631627817:True:=⟨⟩
theorem tw6792506565696153093:True:=⟨⟩
theorem tw4517610529197701458:True:=⟨⟩
theorem tw7130958308059628738:True:=⟨⟩
theorem tw3194662115567399348:True:=⟨⟩
theorem tw6832068069595062364:True:=⟨⟩
theorem tw13403814363088104198:True:=⟨⟩
theorem tw292000154434860578:True:=⟨⟩
theorem tw11039064527158159149:True:=⟨⟩
theorem tw11636897035669319257:True:=⟨⟩
theorem tw9608445711500389559:True:=⟨⟩
theorem tw12563036715965882819:True:=⟨⟩
theorem tw1948670872877442149:True:=⟨⟩
theorem tw6528862286138383045:True:=⟨⟩
theorem tw12277460130044281519:True:=⟨⟩
theorem tw15551453812489514200:True:=⟨⟩
theorem tw4432105335464097264:True:=⟨⟩
theorem tw17628451964518024359:True:=⟨⟩
theorem tw7736238175806333111:True:=⟨⟩
theorem tw9431870799185298849:True:=⟨⟩
theorem tw12771296145555093787:True:=⟨⟩
theorem tw9245458697281695588:True:=⟨⟩
theorem tw14507373514795050752:True:=⟨⟩
theorem tw11924396639822905723:True:=⟨⟩
theorem tw10668922593701831202:True:=⟨⟩
theorem tw17930055684105588817:True:=⟨⟩
theorem tw4159841891729306857:True:=⟨⟩
theorem tw5063036198493085157:True:=⟨⟩
theorem tw15846849505876946545:True:=⟨⟩
theorem tw12752862650268583979:True:=⟨⟩
theorem tw3875439334617961211:True:=⟨⟩
theorem tw16789060488011395076:True:=⟨⟩
theorem tw9186156899511671041:True:=⟨⟩
theorem tw3025869253618836368:True:=⟨⟩
theorem tw564613650983117163:True:=⟨⟩
theorem tw1443367606356931295:True:=⟨⟩
theorem tw561253899737940390:True:=⟨⟩
theorem tw7149939930168698547:True:=⟨⟩
theorem tw3189425104843905575:True:=⟨⟩
theorem tw13732248496577653336:True:=⟨⟩
theorem tw6826872132553412470:True:=⟨⟩
theorem tw16953198982761404464:True:=⟨⟩
theorem tw6861033935814792759:True:=⟨⟩
theorem tw2384152220650305870:True:=⟨⟩
theorem tw7927812757054003257:True:=⟨⟩
theorem tw4302564623335333803:True:=⟨⟩
theorem tw4584432420258178996:True:=⟨⟩
theorem tw9115846783800717508:True:=⟨⟩
theorem tw8385237615829814800:True:=⟨⟩
theorem tw16702781698431252072:True:=⟨⟩
theorem tw17479775051735670340:True:=⟨⟩
theorem tw6284960370354627942:True:=⟨⟩
theorem tw15882928862276091341:True:=⟨⟩
theorem tw2591122967972475977:True:=⟨⟩
theorem tw2072576798377587260:True:=⟨⟩
theorem tw9048697583001935065:True:=⟨⟩
theorem tw17846535408828932529:True:=⟨⟩
theorem tw3916326430323167884:True:=⟨⟩
theorem tw10844549898594924172:True:=⟨⟩
theorem tw16511203669912187812:True:=⟨⟩
theorem tw536276542214105499:True:=⟨⟩
theorem tw11471505803069837761:True:=⟨⟩
theorem tw11441656604121424798:True:=⟨⟩
theorem tw497434610585864726:True:=⟨⟩
theorem tw1912303210019136720:True:=⟨⟩
theorem tw17059467356634386633:True:=⟨⟩
theorem tw14120365234971763757:True:=⟨⟩
theorem tw12098101334814509826:True:=⟨⟩
theorem tw6205196826300102143:True:=⟨⟩
theorem tw10536151817725474416:True:=⟨⟩
theorem tw2564588670380484537:True:=⟨⟩
theorem tw14149814787319378846:True:=⟨⟩
theorem tw5725642563791886355:True:=⟨⟩
theorem tw4631230790446818351:True:=⟨⟩
theorem tw7188779304648441558:True:=⟨⟩
theorem tw18166308939790741534:True:=⟨⟩
theorem tw9477435506490148789:True:=⟨⟩
theorem tw13972408887990921971:True:=⟨⟩
theorem tw1410220560963930632:True:=⟨⟩
theorem tw18349288132634827952:True:=⟨⟩
theorem tw13303764000472102019:True:=⟨⟩
theorem tw14353704471765477874:True:=⟨⟩
theorem tw10210985967976942811:True:=⟨⟩
theorem tw12776902761263341349:True:=⟨⟩
theorem tw17791847682119316954:True:=⟨⟩
theorem tw16613247767598281337:True:=⟨⟩
theorem tw16068879806451111268:True:=⟨⟩
theorem tw3268716453965562012:True:=⟨⟩
theorem tw13619265914165413446:True:=⟨⟩
theorem tw320019643941472082:True:=⟨⟩
theorem tw7847912149597845831:True:=⟨⟩
theorem tw5640733078603490384:True:=⟨⟩
theorem tw13494136310042353093:True:=⟨⟩
theorem tw18086889789716088520:True:=⟨⟩
theorem tw7349123689724310376:True:=⟨⟩
theorem tw14178359941219610058:True:=⟨⟩
theorem tw11504341175959418375:True:=⟨⟩
theorem tw8913626556267456680:True:=⟨⟩
theorem tw8721468300008442648:True:=⟨⟩
theorem tw11877618724740711253:True:=⟨⟩
theorem tw7145654524059788813:True:=⟨⟩
theorem tw12833768110797535327:True:=⟨⟩
theorem tw7964148428180106179:True:=⟨⟩
theorem tw11614645777876266944:True:=⟨⟩
theorem tw7822988105950133205:True:=⟨⟩
theorem tw17611726719624815161:True:=⟨⟩
theorem tw14076401617963697901:True:=⟨⟩
theorem tw16335434133153280018:True:=⟨⟩
theorem tw15071750070988415469:True:=⟨⟩
theorem tw10548559727703532120:True:=⟨⟩
theorem tw13208086566418211076:True:=⟨⟩
theorem tw845340719409691447:True:=⟨⟩
theorem tw5810849619599361250:True:=⟨⟩
theorem tw13777939661714399664:True:=⟨⟩
theorem tw11526808898052889892:True:=⟨⟩
theorem tw15627609114159463657:True:=⟨⟩
theorem tw4939667095245058781:True:=⟨⟩
theorem tw15570034114097820328:True:=⟨⟩
theorem tw6664792672230851202:True:=⟨⟩
theorem tw6446173884280846131:True:=⟨⟩
theorem tw9127299651974412171:True:=⟨⟩
theorem tw11562286830271802896:True:=⟨⟩
theorem tw13561048572762528226:True:=⟨⟩
theorem tw4584949435976586842:True:=⟨⟩
theorem tw7092044988067531984:True:=⟨⟩
theorem tw597247371373102661:True:=⟨⟩
theorem tw10480709338321791408:True:=⟨⟩
theorem tw15494386126234429325:True:=⟨⟩
theorem tw15306838693123657073:True:=⟨⟩
theorem tw11945606639996358597:True:=⟨⟩
theorem tw4401144280105213470:True:=⟨⟩
theorem tw1231466226454094965:True:=⟨⟩
theorem tw70141690148994027:True:=⟨⟩
theorem tw2640742293621659239:True:=⟨⟩
theorem tw6815502632888694275:True:=⟨⟩
theorem tw121149674922388432:True:=⟨⟩
theorem tw10544550542289177130:True:=⟨⟩
theorem tw12282538446322901164:True:=⟨⟩
theorem tw1583169144992956057:True:=⟨⟩
theorem tw18082765308112054665:True:=⟨⟩
theorem tw9762702664408393294:True:=⟨⟩
theorem tw13833749885731277236:True:=⟨⟩
theorem tw4047751905853552064:True:=⟨⟩
theorem tw5531699014042809000:True:=⟨⟩
theorem tw1539183407609861691:True:=⟨⟩
theorem tw12288710632330203556:True:=⟨⟩
theorem tw5329264977826319204:True:=⟨⟩
theorem tw16826826387130989475:True:=⟨⟩
theorem tw12588655913737224112:True:=⟨⟩
theorem tw13648110744517468970:True:=⟨⟩
theorem tw3605027690137043045:True:=⟨⟩
theorem tw12799645387847808261:True:=⟨⟩
theorem tw5520078972508379890:True:=⟨⟩
theorem tw5860157198591330329:True:=⟨⟩
theorem tw15876828894402741183:True:=⟨⟩
theorem tw9275708868273767176:True:=⟨⟩
theorem tw14479670119340022993:True:=⟨⟩
theorem tw14324589754238003376:True:=⟨⟩
theorem tw4425174439813424836:True:=⟨⟩
theorem tw3199982843413100908:True:=⟨⟩
theorem tw1125822016347021493:True:=⟨⟩
theorem tw14185297396867112123:True:=⟨⟩
theorem tw2281077838996396080:True:=⟨⟩
theorem tw14539315848154005639:True:=⟨⟩
theorem tw7838914611102556961:True:=⟨⟩
theorem tw15804401150168470686:True:=⟨⟩
theorem tw6456832894060877833:True:=⟨⟩
theorem tw1184436934136612217:True:=⟨⟩
theorem tw7479578219379822800:True:=⟨⟩
theorem tw7734807352228587575:True:=⟨⟩
theorem tw3272507008573189085:True:=⟨⟩
theorem tw11625420746994881966:True:=⟨⟩
theorem tw12756134658087982613:True:=⟨⟩
theorem tw15529447589007929594:True:=⟨⟩
theorem tw5294184737998916710:True:=⟨⟩
theorem tw3926259247803346794:True:=⟨⟩
theorem tw5658946851105685799:True:=⟨⟩
theorem tw16734333399052262865:True:=⟨⟩
theorem tw12524263619861150252:True:=⟨⟩
theorem tw4974859036071497330:True:=⟨⟩
theorem tw14093493443636162348:True:=⟨⟩
theorem tw8621190187495638600:True:=⟨⟩
theorem tw14438554242581918386:True:=⟨⟩
theorem tw17293663173338372009:True:=⟨⟩
theorem tw9516973204329713106:True:=⟨⟩
theorem tw567441666275595418:True:=⟨⟩
theorem tw9532707451550339117:True:=⟨⟩
theorem tw14911591998320739388:True:=⟨⟩
theorem tw10091991974013355102:True:=⟨⟩
theorem tw3916445425468971561:True:=⟨⟩
theorem tw12628513804336797078:True:=⟨⟩
theorem tw14866665948932075989:True:=⟨⟩
theorem tw17715408338387859665:True:=⟨⟩
theorem tw12606041825699407433:True:=⟨⟩
theorem tw602456763855359774:True:=⟨⟩
theorem tw8035164757028087296:True:=⟨⟩
theorem tw12267989270519045761:True:=⟨⟩
theorem tw3045497084366959575:True:=⟨⟩
theorem tw6853798508463141246:True:=⟨⟩
theorem tw4235456613644279976:True:=⟨⟩
theorem tw12140633751356223376:True:=⟨⟩
theorem tw18312504515974494237:True:=⟨⟩
theorem tw10625327567686854373:True:=⟨⟩
theorem tw7555315357433277070:True:=⟨⟩
theorem tw17151408274708694891:True:=⟨⟩
theorem tw261801722597196007:True:=⟨⟩
theorem tw10797042889944137579:True:=⟨⟩
theorem tw16348648455140296312:True:=⟨⟩
theorem tw18196001570006562867:True:=⟨⟩
theorem tw9658173062125447457:True:=⟨⟩
theorem tw6997540218788932562:True:=⟨⟩
theorem tw20928730024717966:True:=⟨⟩
theorem tw10053840998692272436:True:=⟨⟩
theorem tw7253725805459064513:True:=⟨⟩
theorem tw12181520771805395901:True:=⟨⟩
theorem tw5089722229411898030:True:=⟨⟩
theorem tw1311806111963785919:True:=⟨⟩
theorem tw1506499673838358502:True:=⟨⟩
theorem tw14108578818380947995:True:=⟨⟩
theorem tw7697676732216301765:True:=⟨⟩
theorem tw3975351068504771237:True:=⟨⟩
theorem tw10188140796680653231:True:=⟨⟩
theorem tw10900899604227892645:True:=⟨⟩
theorem tw17651134967566334206:True:=⟨⟩
theorem tw14913456685106146339:True:=⟨⟩
theorem tw14937183797255618270:True:=⟨⟩
theorem tw4952887005454930334:True:=⟨⟩
theorem tw3524640253424210680:True:=⟨⟩
theorem tw9956362802439791496:True:=⟨⟩
theorem tw4292810713489166814:True:=⟨⟩
theorem tw15301387156545006056:True:=⟨⟩
theorem tw13794161965879995827:True:=⟨⟩
theorem tw3804154821210054788:True:=⟨⟩
theorem tw13236045963689552042:True:=⟨⟩
theorem tw5862674724065610482:True:=⟨⟩
theorem tw3731312936199837057:True:=⟨⟩
theorem tw4419653398493163520:True:=⟨⟩
theorem tw11257363439720917574:True:=⟨⟩
theorem tw14528005275688222912:True:=⟨⟩
theorem tw15680020460054449080:True:=⟨⟩
theorem tw6094000454514774917:True:=⟨⟩
theorem tw12713930191857360707:True:=⟨⟩
theorem tw7536617116859538694:True:=⟨⟩
theorem tw7880863733591230645:True:=⟨⟩
theorem tw17763779645294824389:True:=⟨⟩
theorem tw6540819365932441545:True:=⟨⟩
theorem tw11165837272850884175:True:=⟨⟩
theorem tw10463163288449904765:True:=⟨⟩
theorem tw4639900935463750941:True:=⟨⟩
theorem tw13599142428367691476:True:=⟨⟩
theorem tw14483324136085928606:True:=⟨⟩
theorem tw7499964134119067200:True:=⟨⟩
theorem tw12671004129782791449:True:=⟨⟩
theorem tw18362303879595717390:True:=⟨⟩
theorem tw7907282141696400995:True:=⟨⟩
theorem tw13303794178921191429:True:=⟨⟩
theorem tw6483870011866585977:True:=⟨⟩
theorem tw5420036660922687139:True:=⟨⟩
theorem tw1694324825208583300:True:=⟨⟩
theorem tw14100878072737347281:True:=⟨⟩
theorem tw8236717211332867860:True:=⟨⟩
theorem tw6191594895172621816:True:=⟨⟩
theorem tw8007002174592746953:True:=⟨⟩
theorem tw5860519884875485581:True:=⟨⟩
theorem tw9105275113547881855:True:=⟨⟩
theorem tw18136904373791873361:True:=⟨⟩
theorem tw14466951912648237241:True:=⟨⟩
theorem tw11706894932450891836:True:=⟨⟩
theorem tw13602039790731119556:True:=⟨⟩
theorem tw2153577323612215841:True:=⟨⟩
theorem tw14422191531352137607:True:=⟨⟩
theorem tw13878922585078201819:True:=⟨⟩
theorem tw12656897015978289998:True:=⟨⟩
theorem tw13194112624845856134:True:=⟨⟩
theorem tw14575621721791511339:True:=⟨⟩
theorem tw6298558726579613022:True:=⟨⟩
theorem tw11194584337023519265:True:=⟨⟩
theorem tw7244859289894010151:True:=⟨⟩
theorem tw17317375777863257973:True:=⟨⟩
theorem tw17915426217905993771:True:=⟨⟩
theorem tw18257647572464879509:True:=⟨⟩
theorem tw1828965477826513877:True:=⟨⟩
theorem tw13608103452012550484:True:=⟨⟩
theorem tw13602127328344280163:True:=⟨⟩
theorem tw14397144128373703481:True:=⟨⟩
theorem tw18011692772305353991:True:=⟨⟩
theorem tw10489225737283954175:True:=⟨⟩
theorem tw17192520383637168108:True:=⟨⟩
theorem tw14206344068179072496:True:=⟨⟩
theorem tw7227864111147485144:True:=⟨⟩
theorem tw1677027907586309089:True:=⟨⟩
theorem tw10307196008142580443:True:=⟨⟩
theorem tw14172976818451190353:True:=⟨⟩
theorem tw14618351610662104678:True:=⟨⟩
theorem tw5768539659233780888:True:=⟨⟩
theorem tw6560556832977933190:True:=⟨⟩
theorem tw16023756470363580128:True:=⟨⟩
theorem tw2305464049804617007:True:=⟨⟩
theorem tw9768130802968684099:True:=⟨⟩
theorem tw2228076591029378103:True:=⟨⟩
theorem tw4413016498406707292:True:=⟨⟩
theorem tw7415321403824598204:True:=⟨⟩
theorem tw96015951479556875:True:=⟨⟩
theorem tw5940751038690563032:True:=⟨⟩
theorem tw4122928847262684185:True:=⟨⟩
theorem tw3711511605957868925:True:=⟨⟩
theorem tw7911543821232031868:True:=⟨⟩
theorem tw15418153530674096292:True:=⟨⟩
theorem tw15775702154273384842:True:=⟨⟩
theorem tw5451854127171480897:True:=⟨⟩
theorem tw12725921398816645110:True:=⟨⟩
theorem tw10544135084103263217:True:=⟨⟩
theorem tw2580554226580194674:True:=⟨⟩
theorem tw3848832570191633886:True:=⟨⟩
theorem tw496227779706148867:True:=⟨⟩
theorem tw1355967996232537767:True:=⟨⟩
theorem tw2121698623442135060:True:=⟨⟩
theorem tw11265544174059391946:True:=⟨⟩
theorem tw13421997292260737002:True:=⟨⟩
theorem tw3956284736196875872:True:=⟨⟩
theorem tw11933587173971736028:True:=⟨⟩
theorem tw10829944832727851588:True:=⟨⟩
theorem tw2470437138314125187:True:=⟨⟩
theorem tw4889804646092195176:True:=⟨⟩
theorem tw7942188619616196455:True:=⟨⟩
theorem tw17247544371870571486:True:=⟨⟩
theorem tw1731238533024330346:True:=⟨⟩
theorem tw9195843107733492098:True:=⟨⟩
theorem tw1185471656648575256:True:=⟨⟩
theorem tw17016054134035963081:True:=⟨⟩
theorem tw17608839583806697890:True:=⟨⟩
theorem tw17722904639319174218:True:=⟨⟩
theorem tw1065558152971385470:True:=⟨⟩
theorem tw5348557234222392198:True:=⟨⟩
theorem tw566453174731740336:True:=⟨⟩
theorem tw12162212148381214624:True:=⟨⟩
theorem tw14589131291479497588:True:=⟨⟩
theorem tw11655679696670979541:True:=⟨⟩
theorem tw16101828652231852503:True:=⟨⟩
theorem tw14882489483329255745:True:=⟨⟩
theorem tw7908513600626147533:True:=⟨⟩
theorem tw7463547756604545153:True:=⟨⟩
theorem tw4491762973549857665:True:=⟨⟩
theorem tw9196229214249566995:True:=⟨⟩
theorem tw17562856569087487661:True:=⟨⟩
theorem tw2718400765446880727:True:=⟨⟩
theorem tw11397357708827167216:True:=⟨⟩
theorem tw16042229125961084921:True:=⟨⟩
theorem tw2851282848830517432:True:=⟨⟩
theorem tw3457067355623971343:True:=⟨⟩
theorem tw16470419319201791697:True:=⟨⟩
theorem tw12299909240154561922:True:=⟨⟩
theorem tw13502640655560257534:True:=⟨⟩
theorem tw2696243087568158843:True:=⟨⟩
theorem tw12599409909284751391:True:=⟨⟩
theorem tw3521754739659835588:True:=⟨⟩
theorem tw557313021339803336:True:=⟨⟩
theorem tw17795140159862131464:True:=⟨⟩
theorem tw12844310342775638736:True:=⟨⟩
theorem tw12501396724843127253:True:=⟨⟩
theorem tw8523333554609570144:True:=⟨⟩
theorem tw2106390330487246467:True:=⟨⟩
theorem tw1628768075124406603:True:=⟨⟩
theorem tw11980678560100392378:True:=⟨⟩
theorem tw17240055733606276031:True:=⟨⟩
theorem tw11109537072838044893:True:=⟨⟩
theorem tw17496417352216552734:True:=⟨⟩
theorem tw9159851576604111428:True:=⟨⟩
theorem tw10895067512550874292:True:=⟨⟩
theorem tw17892445341512313548:True:=⟨⟩
theorem tw2681728898261706542:True:=⟨⟩
theorem tw5237561199221903826:True:=⟨⟩
theorem tw4960661031540872275:True:=⟨⟩
theorem tw713276216919402801:True:=⟨⟩
theorem tw3550778864794594737:True:=⟨⟩
theorem tw14994349952409256322:True:=⟨⟩
theorem tw5247803525762412791:True:=⟨⟩
theorem tw3072515813517622607:True:=⟨⟩
theorem tw15103479732313520743:True:=⟨⟩
theorem tw12382942507469089698:True:=⟨⟩
theorem tw5211814916087715500:True:=⟨⟩
theorem tw2887216398932712163:True:=⟨⟩
theorem tw2414828862288371020:True:=⟨⟩
theorem tw3893891862801517721:True:=⟨⟩
theorem tw18119597163035751918:True:=⟨⟩
theorem tw6547244606807393953:True:=⟨⟩
end PySem.W.Fast
open PySem PySem.W PyProof.Rows
set_option maxRecDepth 100000 in
set_option maxHeartbeats 0 in
theorem PySem.Challenge.cw_soundkeeping_s02_unframe_holds : PySem.Challenge.rw_soundkeeping_s02_unframe.Holds := by
  w_on; k_headS; (case hw => exact ⟨[.list [], .list []], by decide +kernel, by decide +kernel⟩)
  k_fillS
  refine L2.walk_specK (r := PySem.Challenge.rw_soundkeeping_s02_unframe) (k := 14) (CX := L2.CX0) (ps := ["form", "data"]) (sp := Wg.spUnf) (by decide +kernel) rfl rfl ⟨rfl, by decide, by decide⟩ (fun w h Y => PySem.W.kIn_of Y) ?F ?S (fun _ _ _ _ z => z)
  case F =>
    intro w mg fa h Y KX G hmg
    have T : ∃ A, Wg.Txt (L2.KOf KX) mg A := by
      dsimp only [L2.KOf]
      apply Wg.txt_mk KX G
      all_goals first | k_is | k_exc | rfl
    obtain ⟨A, T⟩ := T
    have e0 := hmg.symm.trans T.m_unframe
    cases e0
    exact ⟨A.d_unframe, T.entry, fun base _ _ => Wg.ok_unframe T⟩
  case S =>
    intro K H xs a hO hwi hask hx
    obtain ⟨x0, x1, u⟩ := a
    cases hx with
    | cons h0 r0 =>
      cases r0 with
      | cons h1 r1 =>
        cases r1
        cases h0 with
        | lst s0 d0 =>
          have e0 := L2.ints_dw x0 _ d0
          subst e0
          cases h1 with
          | lst s1 d1 =>
            have e1 := L2.ints_dw x1 _ d1
            subst e1
            have q : ((Codec.inLen 0 8 x0 && x0.all (Codec.inInt 0 4294967295)) && ((Codec.inLen 0 16384 x1 && x1.all (Codec.inInt 0 255)) && true)) = true := hwi
            simp only [Bool.and_eq_true] at q
            obtain ⟨⟨l0, b0⟩, ⟨l1, b1⟩, _⟩ := q
            have l0 := (Codec.inNat_iff.mp l0).2
            have b0 := fun z hz => Codec.inInt_iff.mp (List.all_eq_true.mp b0 z hz)
            have l1 := (Codec.inNat_iff.mp l1).2
            have b1 := fun z hz => Codec.inInt_iff.mp (List.all_eq_true.mp b1 z hz)
            exact ⟨_, _, x0, x1, rfl, s0, s1, fun z hz => (b0 z hz).1, l0, l1, b1, fun H' p hp => .lst (L2.SqL.of hp) (L2.dw_ints _)⟩
#print axioms PySem.Challenge.cw_soundkeeping_s02_unframe_holds
