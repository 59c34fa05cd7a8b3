import PyProof.Rows.All
import Wide.All
import OpenK.AllK
import Wide.FinOn
import PyProof.EqAt
import PyProof.EqKinds
import PyProof.TupleCall
import KE.BitLaws
import Open.SpecLaws
import KE.OsHead
import KE.OsGo
import PySem.Challenge.RW_soundkeeping_s09_find
set_option Elab.async false
set_option linter.all false
set_option maxRecDepth 100000
namespace L2
open PySem PySem.Spec PyProof.Rows
abbrev Key := Sum Int Str
def keyIs : Key → Value → Bool
  | .inl k, v => Value.isInt k v
  | .inr x, v => Value.isStrOf x v
def keyH (w : World) : Key → Int
  | .inl k => hashInt k
  | .inr x => hashStr w x
theorem keyIs_shape : ∀ {k : Key} {v : Value}, keyIs k v = true → (∃ i t, k = Sum.inl i ∧ v = Value.int i t) ∨ (∃ x t, k = Sum.inr x ∧ v = Value.str x t)
  | .inl i, v, h => by
    obtain ⟨t, e⟩ := Value.isInt_shape (k := i) (v := v) h
    exact .inl ⟨i, t, rfl, e⟩
  | .inr x, v, h => by
    obtain ⟨t, e⟩ := Value.isStrOf_shape (x := x) (v := v) h
    exact .inr ⟨x, t, rfl, e⟩
theorem key_ll (a b : Int) : decide ((Sum.inl a : Key) = Sum.inl b) = (a == b) := by
  by_cases e : a = b
  · subst e; simp
  · have h : ¬ (Sum.inl a : Key) = Sum.inl b := fun q => e (Sum.inl.inj q)
    rw [decide_eq_false h]
    exact (beq_eq_false_iff_ne.mpr e).symm
theorem key_rr (a b : Str) : decide ((Sum.inr a : Key) = Sum.inr b) = decide (a = b) := by
  by_cases e : a = b
  · subst e; simp
  · have h : ¬ (Sum.inr a : Key) = Sum.inr b := fun q => e (Sum.inr.inj q)
    rw [decide_eq_false h, decide_eq_false e]
theorem key_lr (a : Int) (b : Str) : decide ((Sum.inl a : Key) = Sum.inr b) = false := decide_eq_false (fun q => nomatch q)
theorem key_rl (a : Str) (b : Int) : decide ((Sum.inr a : Key) = Sum.inl b) = false := decide_eq_false (fun q => nomatch q)
def mixKind (prog : Program) (w : World) : PySem.KeyKind prog w Key where
  is := keyIs
  hash := keyH w
  inj := fun v a b ha hb => by
    rcases keyIs_shape ha with ⟨i, t, rfl, rfl⟩ | ⟨x, t, rfl, rfl⟩
    · rcases keyIs_shape hb with ⟨j, u, rfl, e⟩ | ⟨y, u, rfl, e⟩
      · injection e with e1 _; rw [e1]
      · exact nomatch e
    · rcases keyIs_shape hb with ⟨j, u, rfl, e⟩ | ⟨y, u, rfl, e⟩
      · exact nomatch e
      · injection e with e1 _; rw [e1]
  byValue := fun k v h => by
    rcases keyIs_shape h with ⟨i, t, rfl, rfl⟩ | ⟨x, t, rfl, rfl⟩ <;> rfl
  pyHash := fun hv h => by
    rcases keyIs_shape hv with ⟨i, t, rfl, rfl⟩ | ⟨x, t, rfl, rfl⟩
    · exact wpAny_pyHash_int h
    · exact wpAny_pyHash_str h
  eqBool := fun hu hv h => by
    rcases keyIs_shape hu with ⟨i, t, rfl, rfl⟩ | ⟨x, t, rfl, rfl⟩
    · rcases keyIs_shape hv with ⟨j, u, rfl, rfl⟩ | ⟨y, u, rfl, rfl⟩
      · rw [key_ll] at h; exact wpAny_eqBool_int h
      · rw [key_lr] at h; exact SeqAt.EqAt.int_str i t y u _ _ _ _ h
    · rcases keyIs_shape hv with ⟨j, u, rfl, rfl⟩ | ⟨y, u, rfl, rfl⟩
      · rw [key_rl] at h; exact SeqAt.EqAt.str_int x t j u _ _ _ _ h
      · rw [key_rr] at h; exact wpAny_eqBool_str h
  «strs» := fun k x t v h => by
    rcases keyIs_shape h with ⟨i, u, rfl, e⟩ | ⟨y, u, rfl, e⟩
    · exact nomatch e
    · injection e with e1 _
      subst e1
      cases v <;> rfl
end L2
namespace L2
open PySem PySem.Spec PyProof.Rows
inductive V where
  | non | bl (b : Bool) | int (i : Int) | str (x : Str) | byt (b : Array UInt8) | flt (b : UInt64) | ref (a : Addr) | ty (n : String)
  deriving DecidableEq
def RelV : V → Value → Prop
  | .non, u => u = Value.none
  | .bl b, u => u = Value.bool b
  | .int i, u => ∃ t, u = Value.int i t
  | .str x, u => ∃ t, u = Value.str x t
  | .byt b, u => ∃ t, u = Value.bytes b t
  | .flt b, u => ∃ t, u = Value.float b t
  | .ref a, u => u = Value.ref a
  | .ty n, u => u = Value.type n
abbrev Vals : List V → List Value → Prop := Paired RelV
theorem Vals.length {xs : List V} {us : List Value} (r : Vals xs us) : xs.length = us.length := Paired.length r
theorem Vals.get : ∀ {xs : List V} {us : List Value} {i : Nat} {x : V}, Vals xs us → xs[i]? = some x → ∃ u, us[i]? = some u ∧ RelV x u
  | _, _, _, _, .nil, e => by simp at e
  | _, _, 0, _, .cons r _, e => by simp at e; subst e; exact ⟨_, rfl, r⟩
  | _, _, i + 1, x, .cons _ t, e => by
    obtain ⟨u, h1, h2⟩ := Vals.get (i := i) (x := x) t (by simpa using e)
    exact ⟨u, by simpa using h1, h2⟩
theorem Vals.append : ∀ {xs ys : List V} {us ws : List Value}, Vals xs us → Vals ys ws → Vals (xs ++ ys) (us ++ ws)
  | _, _, _, _, .nil, s => s
  | _, _, _, _, .cons r t, s => .cons r (Vals.append t s)
theorem Vals.take : ∀ {xs : List V} {us : List Value} (n : Nat), Vals xs us → Vals (xs.take n) (us.take n)
  | _, _, 0, _ => .nil
  | _, _, _ + 1, .nil => .nil
  | _, _, n + 1, .cons r t => .cons r (Vals.take n t)
theorem Vals.drop : ∀ {xs : List V} {us : List Value} (n : Nat), Vals xs us → Vals (xs.drop n) (us.drop n)
  | _, _, 0, r => r
  | _, _, _ + 1, .nil => .nil
  | _, _, n + 1, .cons _ t => Vals.drop n t
def RelO : Option V → Option Value → Prop
  | some v, some u => RelV v u
  | none, none => True
  | _, _ => False
def KV {κ : Type} : List (κ × V) → List (κ × Value) → Prop := Paired fun (p : κ × V) (q : κ × Value) => p.1 = q.1 ∧ RelV p.2 q.2
def kV : Key → V
  | .inl i => .int i
  | .inr x => .str x
inductive HO where
  | lst (xs : List V)
  | tup (xs : List V)
  | dK (kvs : List (Key × V)) | dT (kvs : List (List Key × V))
  | set (S : Int → Bool) (n : Nat)
  | ins (C dx : Addr) (fs : List (Str × V))
  | own (x : Addr)
  | xd (fs : List (Str × V))
  | met (f x : Addr)
  | rng (lo hi : Int)
  | frz (o : Obj) (u : HO)
  | tbl (ps : Array Value)
  | ext (φ : Heap → Prop)
abbrev Hp := Addr → Option HO
def upd (H : Hp) (a : Addr) (o : HO) : Hp := fun b => if b = a then some o else H b
theorem upd_same {H : Hp} {a : Addr} {o : HO} : upd H a o a = some o := by unfold upd; rw [if_pos rfl]
theorem upd_ne {H : Hp} {a b : Addr} {o : HO} (h : b ≠ a) : upd H a o b = H b := by unfold upd; rw [if_neg h]
theorem upd_upd {H : Hp} {a : Addr} {o u : HO} : upd (upd H a o) a u = upd H a u := by
  funext b; unfold upd; split <;> rfl
theorem ne_of {H : Hp} {a b : Addr} {o u : HO} (h : H a = some o) (h' : H b = some u) (d : o ≠ u) : a ≠ b := by
  intro e; subst e; rw [h] at h'; exact d (Option.some.inj h')
theorem ne_of_none {H : Hp} {a b : Addr} {o : HO} (h : H a = some o) (h' : H b = none) : a ≠ b := by
  intro e; subst e; rw [h] at h'; cases h'
section
variable (P : Program) (w : World)
def ObjOk (H : Hp) (h : Heap) (a : Addr) : HO → Prop
  | .lst xs => xs.length ≤ sizeLine ∧ ∃ (its : List Value) (n : Nat), Vals xs its ∧ h.get? a = some { cls := .type "list", data := .seq its.toArray n }
  | .tup xs => xs.length ≤ sizeLine ∧ ∃ its : List Value, Vals xs its ∧ IsTup h a its.toArray
  | .dK kvs => kvs.length ≤ sizeLine ∧ (a == sysModules) = false ∧ ∃ vs, KV kvs vs ∧ h.DictOf (mixKind P w) a vs
  | .dT kvs => kvs.length ≤ sizeLine ∧ (a == sysModules) = false ∧ ∃ xs : List (List Key × Addr × Value),
      Paired (fun (p : List Key × V) (q : List Key × Addr × Value) => p.1 = q.1 ∧ H q.2.1 = some (.tup (p.1.map kV)) ∧ RelV p.2 q.2.2) kvs xs ∧
      ∃ o es ep, h.get? a = some o ∧ o.ExactDict ∧ o.data = .dict es ep ∧ es.toList = xs.map (entryOfKey (tupleKind (mixKind P w))) ∧ (xs.map (·.1)).Nodup
  | .set S n => h.SetOf (intKind P w) a S n
  | .ins C dx fs => H dx = some (.own a) ∧ fs.length ≤ 1000 ∧ dx ≠ a ∧ h.get? a = some (PySem.W.instObj C dx) ∧
      ∃ mA, h.Ns1 dx mA ∧ (∀ f, RelO (fs.lookup f) (mA f)) ∧ PySem.Within mA (fs.map (·.1))
  | .own _ => ∃ o, h.get? a = some o
  | .xd fs => ∃ mA, h.Ns1 a mA ∧ ∀ f, RelO (fs.lookup f) (mA f)
  | .rng lo hi => ∃ t u v, h.get? a = some { cls := .type "range", data := .fields #[.int lo t, .int hi u, .int 1 v] }
  | .frz o u => h.get? a = some o ∧ ObjOk H h a u
  | .tbl ps => h.get? a = some { cls := .none, data := .fields ps }
  | .met f x => h.get? a = some (PySem.W.methodObj (.ref f) (.ref x))
  | .ext φ => φ h ∧ (∃ o, h.get? a = some o) ∧ ∀ h1 h2 : Heap, φ h1 → (∀ o, h1.get? a = some o → h2.get? a = some o) → φ h2
def HOk (H : Hp) (h : Heap) : Prop := ∀ a o, H a = some o → ObjOk P w H h a o
end
section
variable {P : Program} {w : World} {H H' : Hp} {h h' : Heap} {a : Addr} {o : HO}
theorem ObjOk.lt (x : ObjOk P w H h a o) : a < h.objs.size := by
  cases o with
  | lst xs => obtain ⟨_, _, _, _, e⟩ := x; exact Heap.lt_size e
  | tup xs => obtain ⟨_, _, _, p⟩ := x; exact p.lt
  | dK kvs => obtain ⟨_, _, _, _, o, _, _, e, _⟩ := x; exact Heap.lt_size e
  | dT kvs => obtain ⟨_, _, _, _, o, _, _, e, _⟩ := x; exact Heap.lt_size e
  | set S n => obtain ⟨o, _, _, _, e, _⟩ := x; exact Heap.lt_size e
  | ins C dx fs => obtain ⟨_, _, _, e, _⟩ := x; exact Heap.lt_size e
  | own y => obtain ⟨_, e⟩ := x; exact Heap.lt_size e
  | xd fs => obtain ⟨_, ⟨_, _, _, e, _⟩, _⟩ := x; exact Heap.lt_size e
  | rng lo hi => obtain ⟨_, _, _, e⟩ := x; exact Heap.lt_size e
  | frz ob u => obtain ⟨e, _⟩ := x; exact Heap.lt_size e
  | tbl ps => exact Heap.lt_size (show h.get? a = some _ from x)
  | met f y => exact Heap.lt_size (show h.get? a = some _ from x)
  | ext φ => obtain ⟨_, ⟨_, e⟩, _⟩ := x; exact Heap.lt_size e
theorem Paired.mapP {α β : Type} {F G : α → β → Prop} : ∀ {l₁ : List α} {l₂ : List β}, Paired F l₁ l₂ → (∀ a b, F a b → G a b) → Paired G l₁ l₂
  | _, _, .nil, _ => .nil
  | _, _, .cons r t, f => .cons (f _ _ r) (Paired.mapP t f)
theorem ObjOk.stay (x : ObjOk P w H h a o) (k : ∀ b u, (b = a ∨ H b = some (.own a)) → h.get? b = some u → h'.get? b = some u)
    (ho : ∀ b, H b = some (.own a) → H' b = some (.own a)) (ht : ∀ b xs, H b = some (.tup xs) → H' b = some (.tup xs)) : ObjOk P w H' h' a o := by
  induction o with
  | lst xs => obtain ⟨z, its, n, r, e⟩ := x; exact ⟨z, its, n, r, k _ _ (.inl rfl) e⟩
  | tup xs => obtain ⟨z, its, r, ob, e, c⟩ := x; exact ⟨z, its, r, ob, k _ _ (.inl rfl) e, c⟩
  | dK kvs => obtain ⟨z, y, vs, r, ob, es, ep, e, c⟩ := x; exact ⟨z, y, vs, r, ob, es, ep, k _ _ (.inl rfl) e, c⟩
  | dT kvs =>
    obtain ⟨z, y, xs, r, ob, es, ep, e, c⟩ := x
    exact ⟨z, y, xs, Paired.mapP r fun p q z => ⟨z.1, ht _ _ z.2.1, z.2.2⟩, ob, es, ep, k _ _ (.inl rfl) e, c⟩
  | set S n => obtain ⟨ob, es, ep, t, e, c⟩ := x; exact ⟨ob, es, ep, t, k _ _ (.inl rfl) e, c⟩
  | ins C dx fs =>
    obtain ⟨d, z, ne, e, mA, ⟨od, es, ep, e2, c⟩, r⟩ := x
    exact ⟨ho _ d, z, ne, k _ _ (.inl rfl) e, mA, ⟨od, es, ep, k _ _ (.inr d) e2, c⟩, r⟩
  | own y => obtain ⟨ob, e⟩ := x; exact ⟨ob, k _ _ (.inl rfl) e⟩
  | xd fs => obtain ⟨mA, ⟨od, es, ep, e, c⟩, r⟩ := x; exact ⟨mA, ⟨od, es, ep, k _ _ (.inl rfl) e, c⟩, r⟩
  | rng lo hi => obtain ⟨t, u, v, e⟩ := x; exact ⟨t, u, v, k _ _ (.inl rfl) e⟩
  | frz ob u ih => obtain ⟨e, q⟩ := x; exact ⟨k _ _ (.inl rfl) e, ih q⟩
  | tbl ps =>
    have e : h.get? a = some { cls := .none, data := .fields ps } := x
    show h'.get? a = some { cls := .none, data := .fields ps }
    exact k a _ (.inl rfl) e
  | met f y =>
    have e : h.get? a = some (PySem.W.methodObj (.ref f) (.ref y)) := x
    show h'.get? a = some (PySem.W.methodObj (.ref f) (.ref y))
    exact k a _ (.inl rfl) e
  | ext φ => obtain ⟨p, ⟨o, e⟩, st⟩ := x; exact ⟨st _ _ p fun o q => k _ _ (.inl rfl) q, ⟨o, k _ _ (.inl rfl) e⟩, st⟩
theorem HOk.lt (x : HOk P w H h) (e : H a = some o) : a < h.objs.size := (x a o e).lt
theorem HOk.fresh (x : HOk P w H h) (e : h.objs.size ≤ a) : H a = none := by
  cases q : H a with
  | none => rfl
  | some u => exact absurd (Nat.lt_of_lt_of_le (x.lt q) e) (Nat.lt_irrefl _)
theorem HOk.kept (x : HOk P w H h) (k : ∀ b u, h.get? b = some u → h'.get? b = some u) : HOk P w H h' := fun a o e =>
  (x a o e).stay (fun b u _ q => k b u q) (fun _ q => q) fun _ _ q => q
theorem HOk.laid (x : HOk P w H h) (k : ∀ b u, h.get? b = some u → h'.get? b = some u) (hp : h.objs.size ≤ a) (new : ObjOk P w (upd H a o) h' a o) : HOk P w (upd H a o) h' := fun b u e => by
  have hn := x.fresh hp
  by_cases hb : b = a
  · subst hb; rw [upd_same] at e; cases e; exact new
  · rw [upd_ne hb] at e
    exact (x b u e).stay (fun c v _ q => k c v q) (fun c q => by rw [upd_ne (ne_of_none q hn)]; exact q) fun c xs q => by rw [upd_ne (ne_of_none q hn)]; exact q
end
def Rd (H : Hp) (a : Addr) (u : HO) : Prop := H a = some u ∨ ∃ o, H a = some (.frz o u)
theorem Rd.ok {P : Program} {w : World} {H : Hp} {h : Heap} {a : Addr} {u : HO} (r : Rd H a u) (x : HOk P w H h) : ObjOk P w H h a u := by
  rcases r with r | ⟨o, r⟩
  · exact x a u r
  · obtain ⟨_, q⟩ := x a _ r
    exact q
def Mut : Option HO → Prop
  | some (.lst _) => True
  | some (.dK _) => True
  | some (.dT _) => True
  | some (.set _ _) => True
  | some (.ins _ _ _) => True
  | some (.ext _) => True
  | _ => False
section
variable {P : Program} {w : World} {H : Hp} {h h' : Heap} {x e : Addr} {o' : HO}
theorem HOk.write (ok : HOk P w H h) (mu : Mut (H x)) (he : e = x ∨ H e = some (.own x)) (k : ∀ b u, b ≠ e → h.get? b = some u → h'.get? b = some u) (heo : ∃ u, h'.get? e = some u)
    (new : ObjOk P w (upd H x o') h' x o') : HOk P w (upd H x o') h' := fun b u q => by
  have nown : ∀ c y, H c = some (.own y) → c ≠ x := fun c y r z => by subst z; rw [r] at mu; exact mu
  have ntup : ∀ c xs, H c = some (.tup xs) → c ≠ x := fun c xs r z => by subst z; rw [r] at mu; exact mu
  by_cases hb : b = x
  · subst hb; rw [upd_same] at q; cases q; exact new
  · rw [upd_ne hb] at q
    by_cases hbe : b = e
    · have q' : H b = some (.own x) := by
        rcases he with z | z
        · exact absurd (hbe.trans z) hb
        · rw [hbe]; exact z
      rw [q] at q'; cases q'
      obtain ⟨v, hv⟩ := heo
      exact ⟨v, by rw [hbe]; exact hv⟩
    · refine (ok b u q).stay (fun c v hc r => k c v ?_ r) (fun c r => by rw [upd_ne (nown c b r)]; exact r) fun c xs r => by rw [upd_ne (ntup c xs r)]; exact r
      rcases hc with rfl | hc
      · exact hbe
      · rintro rfl
        rcases he with z | z
        · exact nown c b hc z
        · rw [hc] at z; cases z; exact hb rfl
end
structure Un (fs ex : List Addr) (H H' : Hp) (h h' : Heap) : Prop where
  keep : ∀ b o, h.get? b = some o → H b = none → b ∉ fs → b ∉ ex → h'.get? b = some o
  slot : ∀ b o, h.get? b = some o → H b = none → b ∈ fs → b ∉ ex → ∃ sl, h'.get? b = some { o with slots := sl }
  free : ∀ b o, h.get? b = some o → H b = none → b ∉ ex → H' b = none
  there : ∀ b o, h.get? b = some o → b ∉ ex → ∃ o', h'.get? b = some o'
  tups : ∀ b xs, H b = some (.tup xs) → H' b = some (.tup xs)
  frzs : ∀ b o u, H b = some (.frz o u) → H' b = some (.frz o u)
  tbls : ∀ b ps, H b = some (.tbl ps) → ∃ more, H' b = some (.tbl (ps ++ more))
section
variable {fs fs' ex ex' : List Addr} {H H1 H2 : Hp} {h h1 h2 h' : Heap} {a x e : Addr} {o : HO}
theorem Un.any (u : Un fs ex H H1 h h1) {b : Addr} {ob : Obj} (q : h.get? b = some ob) (n : H b = none) (hx : b ∉ ex) : ∃ sl, h1.get? b = some { ob with slots := sl } := by
  by_cases hb : b ∈ fs
  · exact u.slot b ob q n hb hx
  · exact ⟨ob.slots, u.keep b ob q n hb hx⟩
theorem Un.kept (k : ∀ b u, h.get? b = some u → h'.get? b = some u) : Un fs ex H H h h' :=
  ⟨fun b ob q _ _ _ => k b ob q, fun b ob q _ _ _ => ⟨ob.slots, k b ob q⟩, fun _ _ _ n _ => n, fun b ob q _ => ⟨ob, k b ob q⟩, fun _ _ q => q, fun _ _ _ q => q, fun _ ps q => ⟨#[], by rw [q]; simp⟩⟩
theorem Un.refl : Un fs ex H H h h := Un.kept fun _ _ q => q
theorem Un.laid (k : ∀ b u, h.get? b = some u → h'.get? b = some u) (hp : h.objs.size ≤ a) (hn : H a = none) : Un fs ex H (upd H a o) h h' where
  keep := fun b u q _ _ _ => k b u q
  slot := fun b u q _ _ _ => ⟨u.slots, k b u q⟩
  free := fun b u q n _ => by rw [upd_ne (Nat.ne_of_lt (Nat.lt_of_lt_of_le (Heap.lt_size q) hp))]; exact n
  there := fun b u q _ => ⟨u, k b u q⟩
  tups := fun b xs q => by rw [upd_ne (ne_of_none q hn)]; exact q
  frzs := fun b u xs q => by rw [upd_ne (ne_of_none q hn)]; exact q
  tbls := fun b ps q => ⟨#[], by rw [upd_ne (ne_of_none q hn), q]; simp⟩
theorem Un.write (mu : Mut (H x)) (he : e = x ∨ H e = some (.own x)) (k : ∀ b u, b ≠ e → h.get? b = some u → h'.get? b = some u) (heo : ∃ u, h'.get? e = some u) : Un fs ex H (upd H x o) h h' := by
  have hx : ∀ b, H b = none → b ≠ x := fun b n z => by subst z; rw [n] at mu; exact mu
  have hb : ∀ b, H b = none → b ≠ e := fun b n z => by
    subst z
    rcases he with r | r
    · exact hx b n r
    · rw [n] at r; cases r
  have hm : ∀ b u, H b = some u → ¬ Mut (some u) → b ≠ x := fun b u q nm z => by subst z; rw [q] at mu; exact nm mu
  refine ⟨fun b u q n _ _ => k b u (hb b n) q, fun b u q n _ _ => ⟨u.slots, k b u (hb b n) q⟩, fun b u q n _ => by rw [upd_ne (hx b n)]; exact n, fun b u q _ => ?_,
    fun b xs q => by rw [upd_ne (hm b _ q fun z => z)]; exact q, fun b u xs q => by rw [upd_ne (hm b _ q fun z => z)]; exact q, fun b ps q => ⟨#[], by rw [upd_ne (hm b _ q fun z => z), q]; simp⟩⟩
  by_cases hbe : b = e
  · subst hbe; exact heo
  · exact ⟨u, k b u hbe q⟩
end
def trk (h : Heap) (H : Hp) : List Addr := (List.range h.objs.size).filter fun a => (H a).isSome
def hidT (h : Heap) (H : Hp) : Heap := PySem.W.hideAll h (trk h H)
theorem hidT_size (h : Heap) (H : Hp) : (hidT h H).objs.size = h.objs.size := PySem.W.hideAll_size _ _
theorem hidT_get {h : Heap} {H : Hp} {b : Addr} {o : Obj} (e : h.get? b = some o) (n : H b = none) : (hidT h H).get? b = some o :=
  PySem.W.hideAll_get _ e fun hm => by
    have q : (H b).isSome = true := (List.mem_filter.mp hm).2
    rw [n] at q; simp at q
theorem of_hidT {h : Heap} {H : Hp} {b : Addr} {o : Obj} (e : (hidT h H).get? b = some o) : h.get? b = some o ∧ H b = none := by
  have e' : h.get? b = some o := PySem.W.of_hideAll (trk h H) e
  refine ⟨e', ?_⟩
  cases q : H b with
  | none => rfl
  | some x =>
    have hm : b ∈ trk h H := List.mem_filter.mpr ⟨List.mem_range.mpr (Heap.lt_size e'), by simp [q]⟩
    have z : (hidT h H).get? b = none := PySem.W.hideAll_none (trk h H) hm
    rw [z] at e; cases e
end L2
namespace L2
open PySem PySem.Spec PyProof.Rows
structure Mod (K : PySem.W.Frag) (mg : Str → Option Value) (base : Heap) : Prop where
  kin : K.In base
  glob : base.Ns mainGlobals mg
  blt : ∃ mb, base.Ns builtinsNs mb ∧ ∀ x : Str, x ≠ "__name__" → mb x = bootBuiltins x
  nolimit : base.NoLimit
structure Cx where
  prog : Program
  w : World
  K : PySem.W.Frag
  mg : Str → Option Value
  base : Heap
  A : Around
  N : List Str
  s_0 : Shared
  H_0 : Hp
  env : Env
  outer : List Env
  stack : List Env
  ex : List Addr
  fn : Str → Bool
  calm : Bool
  pn : List (Addr × Obj)
  xe : Value → Shared → Prop
def frs (l : List Env) : List Addr := l.filterMap (·.frame)
abbrev Cx.fs (X : Cx) : List Addr := frs X.outer
def Vis (sc : Scope) (x : Str) : Prop := sc.names.lookup x = some .local ∨ sc.names.lookup x = some .cell ∨ sc.names.lookup x = some .free
def Loc (sc : Scope) (x : Str) : Prop := sc.names.lookup x = some .local ∨ sc.names.lookup x = some .cell
def Look (env : Env) (h : Heap) (m : Str → Option Value) (x : Str) (u : Value) : Prop :=
  (env.kindOf x = some .local ∧ m x = some u) ∨ ((env.kindOf x = some .cell ∨ env.kindOf x = some .free) ∧ ∃ c, env.cells.lookup x = some c ∧ h.IsCell c (some u))
structure Cx.Ok (X : Cx) : Prop where
  mod : Mod X.K X.mg X.base
  kind : X.env.scope.kind = .function
  glob : X.env.globals = mainGlobals
  blt : X.env.builtins = builtinsNs
  above : X.s_0.heap.objs.size ≤ X.env.locals
  inj : ∀ x y c, X.env.cells.lookup x = some c → X.env.cells.lookup y = some c → x = y
  has : ∀ x, (X.env.kindOf x = some .cell ∨ X.env.kindOf x = some .free) → ∃ c, X.env.cells.lookup x = some c
  cab : ∀ x c, X.fn x = true → X.env.cells.lookup x = some c → X.s_0.heap.objs.size ≤ c
  hd : X.calm = true → X.A.handled = none
  frames : X.A.frames = some X.stack
  stk : X.stack = X.outer ∨ (X.stack = X.env :: X.outer ∧ X.env.frame = some X.env.locals)
  exf : ∀ b ∈ X.ex, b ≠ X.env.locals ∧ ∀ x c, X.env.cells.lookup x = some c → c ≠ b
  bs : ∀ b o, X.base.get? b = some o → X.s_0.heap.get? b = some o ∧ X.H_0 b = none
  bsz : X.base.objs.size ≤ X.s_0.heap.objs.size
  noex : ∀ b o, X.base.get? b = some o → b ∉ X.ex
  exfs : ∀ b ∈ X.ex, b ∉ X.fs
  funs : X.s_0.heap.FunFrames X.base X.outer
  frf : ∀ b ∈ X.fs, X.H_0 b = none
structure Inv (X : Cx) (pins : List (Addr × Obj)) (σ : List (Option V)) (H : Hp) (s : Shared) : Prop where
  ok : X.Ok
  os : s.os = X.s_0.os
  bare : AllBare s.gens
  base : Un X.fs X.ex X.H_0 H X.s_0.heap s.heap
  loc : ∃ m, s.heap.Ns X.env.locals m ∧ ∀ (i : Nat) (x : Str) (v : V), X.N[i]? = some x → σ[i]? = some (some v) → Vis X.env.scope x → ∃ u, RelV v u ∧ Look X.env s.heap m x u
  cell : ∀ x c, X.env.cells.lookup x = some c → ∃ v, s.heap.IsCell c v
  free : H X.env.locals = none
  freeC : ∀ x c, X.env.cells.lookup x = some c → H c = none
  pin : ∀ p ∈ X.pn ++ pins, s.heap.get? p.1 = some p.2 ∧ H p.1 = none ∧ p.1 ≠ X.env.locals ∧ p.1 ∉ X.fs ∧ ∀ v, p.2.data ≠ .cell v
  hok : HOk X.prog X.w H s.heap
  len : σ.length = X.N.length
section
variable {X : Cx} {pins : List (Addr × Obj)} {σ : List (Option V)} {H H' : Hp} {s : Shared} {h' : Heap}
theorem Cx.Ok.nofr (ok : X.Ok) {b : Addr} {o : Obj} (e : X.base.get? b = some o) : b ∉ X.fs := fun hb => by
  have := (ok.funs.mem hb).1
  rw [e] at this; cases this
theorem Inv.bs (I : Inv X pins σ H s) : ∀ b o, X.base.get? b = some o → s.heap.get? b = some o ∧ H b = none := fun b o e =>
  ⟨I.base.keep b o (I.ok.bs b o e).1 (I.ok.bs b o e).2 (I.ok.nofr e) (I.ok.noex b o e), I.base.free b o (I.ok.bs b o e).1 (I.ok.bs b o e).2 (I.ok.noex b o e)⟩
theorem Inv.bk (I : Inv X pins σ H s) : ∀ b o, X.base.get? b = some o → s.heap.get? b = some o := fun b o e => (I.bs b o e).1
theorem Inv.mod (I : Inv X pins σ H s) : Mod X.K X.mg X.base := I.ok.mod
theorem Inv.kIn (I : Inv X pins σ H s) : X.K.In s.heap := I.ok.mod.kin.keeps I.bk
theorem Inv.lt (I : Inv X pins σ H s) : X.env.locals < s.heap.objs.size := let ⟨_, hn, _⟩ := I.loc; hn.lt
theorem Inv.sz (I : Inv X pins σ H s) : X.s_0.heap.objs.size ≤ s.heap.objs.size := Nat.le_trans I.ok.above (Nat.le_of_lt I.lt)
theorem Inv.nofs (I : Inv X pins σ H s) {a : Addr} (h : s.heap.objs.size ≤ a) : a ∉ X.fs := fun hb => by
  obtain ⟨_, o, ho, _⟩ := I.ok.funs.mem hb
  exact absurd (Nat.lt_of_lt_of_le (Heap.lt_size ho) (Nat.le_trans I.sz h)) (Nat.lt_irrefl _)
theorem Inv.cne (I : Inv X pins σ H s) : ∀ x c, X.env.cells.lookup x = some c → c ≠ X.env.locals := fun x c e z => by
  obtain ⟨v, o, ho, hd⟩ := I.cell x c e
  obtain ⟨m, ⟨o', es, ep, ho', hd', _⟩, _⟩ := I.loc
  rw [z, ho'] at ho; cases ho; rw [hd'] at hd; cases hd
theorem Inv.funs (I : Inv X pins σ H s) : s.heap.FunFrames X.base X.outer := by
  have all : ∀ (l : List Env), (∀ b ∈ frs l, b ∈ X.fs) → X.s_0.heap.FunFrames X.base l → s.heap.FunFrames X.base l := by
    intro l
    induction l with
    | nil => intro _ _; trivial
    | cons env r ih =>
      intro hs hl
      obtain ⟨hk, ⟨L, o, hf, hn, ho, hd⟩, hr⟩ := hl
      have hL : L ∈ X.fs := hs L (by unfold frs; rw [List.filterMap_cons, hf]; exact List.mem_cons_self)
      obtain ⟨sl, e⟩ := I.base.slot L o ho (I.ok.frf L hL) hL fun z => I.ok.exfs L z hL
      exact ⟨hk, ⟨L, _, hf, hn, e, hd⟩, ih (fun b hb => hs b (by unfold frs; rw [List.filterMap_cons, hf]; exact List.mem_cons_of_mem _ hb)) hr⟩
  exact all X.outer (fun _ hb => hb) I.ok.funs
theorem Inv.stack (I : Inv X pins σ H s) : s.heap.FunFrames X.base X.stack := by
  rcases I.ok.stk with e | ⟨e, hf⟩
  · rw [e]; exact I.funs
  · rw [e]
    obtain ⟨m, hn, _⟩ := I.loc
    refine .cons (by rw [I.ok.kind]; decide) hf hn ?_ I.funs
    exact Heap.get?_none_of_le (Nat.le_trans I.ok.bsz I.ok.above)
theorem Inv.stkSub (I : Inv X pins σ H s) : ∀ b ∈ frs X.stack, b ∈ X.env.locals :: X.fs := fun b hb => by
  rcases I.ok.stk with e | ⟨e, hf⟩
  · rw [e] at hb; exact List.mem_cons_of_mem _ hb
  · rw [e] at hb
    unfold frs at hb
    rw [List.filterMap_cons, hf] at hb
    exact hb
theorem Inv.stkFree (I : Inv X pins σ H s) : ∀ b ∈ frs X.stack, H b = none := fun b hb => by
  rcases List.mem_cons.mp (I.stkSub b hb) with e | hb
  · rw [e]; exact I.free
  · obtain ⟨_, o, ho, _⟩ := I.ok.funs.mem hb
    exact I.base.free b o ho (I.ok.frf b hb) fun z => I.ok.exfs b z hb
theorem Inv.step {g' : Array GenState} {t' : Nat} {d' : Drawn} {ch : List Addr} (I : Inv X pins σ H s)
    (hch : ∀ b ∈ ch, (b ∈ X.ex ∨ X.s_0.heap.objs.size ≤ b) ∧ b ≠ X.env.locals ∧ (∀ x c, X.env.cells.lookup x = some c → c ≠ b) ∧ ∀ p ∈ X.pn ++ pins, p.1 ≠ b)
    (keep : ∀ b o, b ≠ X.env.locals → b ∉ X.fs → b ∉ ch → s.heap.get? b = some o → H b = none → h'.get? b = some o)
    (slot : ∀ b o, b ≠ X.env.locals → b ∈ X.fs → b ∉ ch → s.heap.get? b = some o → H b = none → ∃ sl, h'.get? b = some { o with slots := sl }) (free : ∀ b o, b ∉ ch → s.heap.get? b = some o → H b = none → H' b = none)
    (there : ∀ b o, b ∉ ch → s.heap.get? b = some o → ∃ o', h'.get? b = some o')
    (tups : ∀ b xs, H b = some (.tup xs) → H' b = some (.tup xs)) (frzs : ∀ b o u, H b = some (.frz o u) → H' b = some (.frz o u)) (tbls : ∀ b ps, H b = some (.tbl ps) → ∃ more, H' b = some (.tbl (ps ++ more)))
    (ns : ∀ m, s.heap.Ns X.env.locals m → h'.Ns X.env.locals m) (hok : HOk X.prog X.w H' h') (hg : AllBare g') :
    Inv X pins σ H' { s with heap := h', gens := g', drawn := d', toks := t' } := by
  have neL : ∀ b o, X.s_0.heap.get? b = some o → b ≠ X.env.locals := fun b o e => Nat.ne_of_lt (Nat.lt_of_lt_of_le (Heap.lt_size e) I.ok.above)
  have neC : ∀ b o, X.s_0.heap.get? b = some o → b ∉ X.ex → b ∉ ch := fun b o e hx hb => by
    rcases (hch b hb).1 with z | z
    · exact hx z
    · exact absurd (Nat.lt_of_lt_of_le (Heap.lt_size e) z) (Nat.lt_irrefl _)
  have cellK : ∀ x c, X.env.cells.lookup x = some c → ∀ v, s.heap.IsCell c v → h'.IsCell c v := fun x c e v ⟨o, ho, hd⟩ => by
    have nch : c ∉ ch := fun z => (hch c z).2.2.1 x c e rfl
    by_cases hc : c ∈ X.fs
    · obtain ⟨sl, q⟩ := slot c o (I.cne x c e) hc nch ho (I.freeC x c e)
      exact ⟨_, q, hd⟩
    · exact ⟨o, keep c o (I.cne x c e) hc nch ho (I.freeC x c e), hd⟩
  refine ⟨I.ok, I.os, hg, ⟨fun b o e n hb hx => ?_, fun b o e n hb hx => ?_, fun b o e n hx => ?_, fun b o e hx => ?_, fun b xs e => tups b xs (I.base.tups b xs e), fun b o xs e => frzs b o xs (I.base.frzs b o xs e), fun b ps e => ?_⟩, ?_, fun x c e => ?_, ?_, fun x c e => ?_, fun p hp => ?_, hok, I.len⟩
  · exact keep b o (neL b o e) hb (neC b o e hx) (I.base.keep b o e n hb hx) (I.base.free b o e n hx)
  · obtain ⟨sl, e1⟩ := I.base.slot b o e n hb hx
    obtain ⟨sl', e2⟩ := slot b _ (neL b o e) hb (neC b o e hx) e1 (I.base.free b o e n hx)
    exact ⟨sl', e2⟩
  · obtain ⟨o', e1⟩ := I.base.there b o e hx
    exact free b o' (neC b o e hx) e1 (I.base.free b o e n hx)
  · obtain ⟨o', e1⟩ := I.base.there b o e hx
    exact there b o' (neC b o e hx) e1
  · obtain ⟨m1, e1⟩ := I.base.tbls b ps e
    obtain ⟨m2, e2⟩ := tbls b _ e1
    exact ⟨m1 ++ m2, by rw [e2, Array.append_assoc]⟩
  · obtain ⟨m, hn, hl⟩ := I.loc
    refine ⟨m, ns m hn, fun i x v e1 e2 e3 => ?_⟩
    obtain ⟨u, r, l⟩ := hl i x v e1 e2 e3
    refine ⟨u, r, ?_⟩
    rcases l with l | ⟨k, c, e, z⟩
    · exact .inl l
    · exact .inr ⟨k, c, e, cellK x c e _ z⟩
  · obtain ⟨v, z⟩ := I.cell x c e
    exact ⟨v, cellK x c e v z⟩
  · obtain ⟨m, ⟨o, _, _, ho, _⟩, _⟩ := I.loc
    exact free _ o (fun z => (hch _ z).2.1 rfl) ho I.free
  · obtain ⟨v, o, ho, hd⟩ := I.cell x c e
    exact free c o (fun z => (hch c z).2.2.1 x c e rfl) ho (I.freeC x c e)
  · obtain ⟨e, n, ne, nf, d⟩ := I.pin p hp
    have nch : p.1 ∉ ch := fun z => (hch p.1 z).2.2.2 p hp rfl
    exact ⟨keep p.1 p.2 ne nf nch e n, free p.1 p.2 nch e n, ne, nf, d⟩
theorem Inv.un {t' : Nat} (I : Inv X pins σ H s) (u : Un X.fs [] H H' s.heap h') (hok : HOk X.prog X.w H' h') : Inv X pins σ H' { s with heap := h', toks := t' } := by
  obtain ⟨m, ⟨o, es, ep, ho, r⟩, _⟩ := id I.loc
  obtain ⟨sl, hL⟩ := u.any ho I.free (by simp)
  exact I.step (g' := s.gens) (d' := s.drawn) (ch := []) (fun _ z => nomatch z) (fun b o _ hb _ e n => u.keep b o e n hb (by simp)) (fun b o _ hb _ e n => u.slot b o e n hb (by simp)) (fun b o _ e n => u.free b o e n (by simp)) (fun b o _ e => u.there b o e (by simp)) u.tups u.frzs u.tbls (fun m' hm => by
    obtain ⟨o', es', ep', ho', r'⟩ := hm
    rw [ho] at ho'; cases ho'
    exact ⟨_, es', ep', hL, r'⟩) hok I.bare
theorem Inv.call {g' : Array GenState} {t' : Nat} {d' : Drawn} {ch : List Addr} (I : Inv X pins σ H s) (u : Un (frs X.stack) ch H H' s.heap h') (hok : HOk X.prog X.w H' h') (hg : AllBare g')
    (hch : ∀ b ∈ ch, (b ∈ X.ex ∨ X.s_0.heap.objs.size ≤ b) ∧ b ≠ X.env.locals ∧ (∀ x c, X.env.cells.lookup x = some c → c ≠ b) ∧ ∀ p ∈ X.pn ++ pins, p.1 ≠ b) :
    Inv X pins σ H' { s with heap := h', gens := g', drawn := d', toks := t' } := by
  obtain ⟨m, ⟨o, es, ep, ho, r⟩, _⟩ := id I.loc
  obtain ⟨sl, hL⟩ := u.any ho I.free fun z => (hch _ z).2.1 rfl
  exact I.step (ch := ch) hch (fun b o hL hb hc e n => u.keep b o e n (fun z => (List.mem_cons.mp (I.stkSub b z)).elim hL hb) hc) (fun b o _ _ hc e n => u.any e n hc) (fun b o hc e n => u.free b o e n hc) (fun b o hc e => u.there b o e hc) u.tups u.frzs u.tbls (fun m' hm => by
    obtain ⟨o', es', ep', ho', r'⟩ := hm
    rw [ho] at ho'; cases ho'
    exact ⟨_, es', ep', hL, r'⟩) hok hg
theorem Inv.turned {t' : Nat} {it : Addr} (I : Inv X pins σ H s) (k : ∀ b o, b ≠ it → s.heap.get? b = some o → h'.get? b = some o) (hn : H it = none) (hL : it ≠ X.env.locals)
    (h1 : it ∈ X.ex ∨ X.s_0.heap.objs.size ≤ it) (h2 : ∀ x c, X.env.cells.lookup x = some c → c ≠ it) (h3 : ∀ p ∈ X.pn ++ pins, p.1 ≠ it) : Inv X pins σ H { s with heap := h', toks := t' } := by
  have nit : ∀ b u, H b = some u → b ≠ it := fun b u e z => by rw [z, hn] at e; cases e
  refine I.step (g' := s.gens) (d' := s.drawn) (ch := [it]) (fun b hb => ?_) (fun b o _ _ hc e _ => k b o (fun z => hc (by simp [z])) e) (fun b o _ _ hc e _ => ⟨o.slots, k b o (fun z => hc (by simp [z])) e⟩) (fun _ _ _ _ n => n)
    (fun b o hc e => ⟨o, k b o (fun z => hc (by simp [z])) e⟩) (fun _ _ e => e) (fun _ _ _ e => e) (fun b ps e => ⟨#[], by rw [e]; simp⟩) (fun m hm => ?_) (fun b u e => ?_) I.bare
  · have e : b = it := by simpa using hb
    subst e
    exact ⟨h1, hL, h2, h3⟩
  · obtain ⟨o, es, ep, ho, r⟩ := hm
    exact ⟨o, es, ep, k _ o (Ne.symm hL) ho, r⟩
  · refine (I.hok b u e).stay (fun c v hc q => k c v ?_ q) (fun _ q => q) fun _ _ q => q
    rcases hc with z | z
    · rw [z]; exact nit b u e
    · exact nit c _ z
theorem Inv.tok (I : Inv X pins σ H s) (t : Nat) : Inv X pins σ H { s with toks := t } := I.un (h' := s.heap) (t' := t) Un.refl I.hok
theorem Inv.kept {t' : Nat} (I : Inv X pins σ H s) (k : ∀ b u, s.heap.get? b = some u → h'.get? b = some u) : Inv X pins σ H { s with heap := h', toks := t' } := I.un (Un.kept k) (I.hok.kept k)
theorem Inv.laid {a : Addr} {o : HO} {t' : Nat} (I : Inv X pins σ H s) (k : ∀ b u, s.heap.get? b = some u → h'.get? b = some u) (hp : s.heap.objs.size ≤ a) (new : ObjOk X.prog X.w (upd H a o) h' a o) :
    Inv X pins σ (upd H a o) { s with heap := h', toks := t' } := I.un (Un.laid k hp (I.hok.fresh hp)) (I.hok.laid k hp new)
theorem Inv.write {x e : Addr} {o : HO} {t' : Nat} (I : Inv X pins σ H s) (mu : Mut (H x)) (he : e = x ∨ H e = some (.own x)) (k : ∀ b u, b ≠ e → s.heap.get? b = some u → h'.get? b = some u) (heo : ∃ u, h'.get? e = some u)
    (new : ObjOk X.prog X.w (upd H x o) h' x o) : Inv X pins σ (upd H x o) { s with heap := h', toks := t' } := I.un (Un.write mu he k heo) (I.hok.write mu he k heo new)
theorem Inv.weak {σ' : List (Option V)} (I : Inv X pins σ H s) (hl : σ'.length = σ.length) (w : ∀ (i : Nat) v, σ'[i]? = some (some v) → σ[i]? = some (some v)) : Inv X pins σ' H s :=
  ⟨I.ok, I.os, I.bare, I.base, let ⟨m, hn, hl'⟩ := I.loc; ⟨m, hn, fun i x v e1 e2 e3 => hl' i x v e1 (w i v e2) e3⟩, I.cell, I.free, I.freeC, I.pin, I.hok, hl.trans I.len⟩
theorem Inv.pins_of {pins' : List (Addr × Obj)} (I : Inv X pins σ H s) (h : ∀ p ∈ pins', s.heap.get? p.1 = some p.2 ∧ H p.1 = none ∧ p.1 ≠ X.env.locals ∧ p.1 ∉ X.fs ∧ ∀ v, p.2.data ≠ .cell v) : Inv X pins' σ H s :=
  ⟨I.ok, I.os, I.bare, I.base, I.loc, I.cell, I.free, I.freeC, fun p hp => (List.mem_append.mp hp).elim (fun z => I.pin p (List.mem_append_left _ z)) (h p), I.hok, I.len⟩
theorem nodup_ix {N : List Str} (hN : N.Nodup) {i j : Nat} {x : Str} (a : N[i]? = some x) (b : N[j]? = some x) : i = j := by
  obtain ⟨h1, e1⟩ := List.getElem?_eq_some_iff.mp a
  obtain ⟨h2, e2⟩ := List.getElem?_eq_some_iff.mp b
  exact (List.getElem_inj hN).mp (e1.trans e2.symm)
theorem store_ok2 {M : Model} {A : Around} {E : Value → Shared → Prop} {i : Nat} {x : Str} {v : V} {u : Value} {Q : Unit → Shared → Prop} (I : Inv X pins σ H s) (hN : X.N.Nodup) (hi : X.N[i]? = some x) (hx : Loc X.env.scope x) (r : RelV v u)
    (h : ∀ s', Inv X pins (σ.set i (some v)) H s' → (∃ a, Heap.SameBut a s.heap s'.heap ∧ (a = X.env.locals ∨ X.env.cells.lookup x = some a)) → Q () s') (hf : X.fn x = true ∨ X.env.scope.names.lookup x = some .local := by first | exact .inl rfl | exact .inr rfl | assumption) : wpAny M A (storeName X.env x u) Q E s := by
  obtain ⟨m, hn, hl⟩ := id I.loc
  have hcls : (X.env.scope.kind == .class || (X.env.scope.kind == .module && X.env.locals != X.env.globals)) = false := by rw [I.ok.kind]; rfl
  have hiσ : i < σ.length := by rw [I.len]; exact (List.getElem?_eq_some_iff.mp hi).1
  have cne := I.cne
  have tracked : ∀ {a : Addr} {h' : Heap}, (∃ o, s.heap.get? a = some o ∧ H a = none) → Heap.SameBut a s.heap h' → HOk X.prog X.w H h' := fun {a h'} ha hs b ob e => by
    obtain ⟨_, _, hfree⟩ := ha
    refine (I.hok b ob e).stay (fun c w' hc q => (hs.2 c ?_).trans q) (fun _ q => q) fun _ _ q => q
    rintro rfl
    rcases hc with rfl | hc
    · rw [hfree] at e; cases e
    · rw [hfree] at hc; cases hc
  rcases hx with hk | hk
  · refine wpAny_storeName_local hk hn (fun h' hn' hs => ?_) hcls
    obtain ⟨oL, _, _, hoL, _⟩ := id hn
    refine h _ ⟨I.ok, I.os, I.bare, ⟨fun b o e n hb hx => ?_, fun b o e n hb hx => ?_, I.base.free, fun b o e hx => ?_, I.base.tups, I.base.frzs, I.base.tbls⟩, ⟨_, hn', fun j y v' e1 e2 e3 => ?_⟩, fun y c e => ?_, I.free, I.freeC, fun p hp => ?_, tracked ⟨oL, hoL, I.free⟩ hs, by simpa using I.len⟩ ⟨_, hs, .inl rfl⟩
    · exact (hs.2 b (Nat.ne_of_lt (Nat.lt_of_lt_of_le (Heap.lt_size e) I.ok.above))).trans (I.base.keep b o e n hb hx)
    · obtain ⟨sl, e1⟩ := I.base.slot b o e n hb hx
      exact ⟨sl, (hs.2 b (Nat.ne_of_lt (Nat.lt_of_lt_of_le (Heap.lt_size e) I.ok.above))).trans e1⟩
    · obtain ⟨o', e1⟩ := I.base.there b o e hx
      exact ⟨o', (hs.2 b (Nat.ne_of_lt (Nat.lt_of_lt_of_le (Heap.lt_size e) I.ok.above))).trans e1⟩
    · by_cases hj : j = i
      · subst hj
        rw [hi] at e1; cases e1
        rw [List.getElem?_set_self hiσ] at e2
        cases e2
        exact ⟨u, r, .inl ⟨hk, by simp⟩⟩
      · rw [List.getElem?_set_ne (Ne.symm hj)] at e2
        obtain ⟨u', r', q⟩ := hl j y v' e1 e2 e3
        refine ⟨u', r', ?_⟩
        rcases q with ⟨k, e⟩ | ⟨k, c, e, z⟩
        · refine .inl ⟨k, ?_⟩
          have : y ≠ x := fun e => hj (nodup_ix hN e1 (e ▸ hi))
          simp [this, e]
        · exact .inr ⟨k, c, e, z.sameBut hs (cne y c e)⟩
    · obtain ⟨w', z⟩ := I.cell y c e
      exact ⟨w', z.sameBut hs (cne y c e)⟩
    · obtain ⟨e, n, ne, nf, d⟩ := I.pin p hp
      exact ⟨(hs.2 p.1 ne).trans e, n, ne, nf, d⟩
  · have hfn : X.fn x = true := by
      rcases hf with z | z
      · exact z
      · rw [z] at hk; cases hk
    obtain ⟨c, hc⟩ := I.ok.has x (.inl hk)
    obtain ⟨w', z⟩ := I.cell x c hc
    refine wpAny_storeName_cell I.ok.kind hk hc z (fun h' hc' hs => ?_)
    obtain ⟨oc, hoc, hocd⟩ := id z
    refine h { s with heap := h' } ⟨I.ok, I.os, I.bare, ⟨fun b o e n hb hx => ?_, fun b o e n hb hx => ?_, I.base.free, fun b o e hx => ?_, I.base.tups, I.base.frzs, I.base.tbls⟩, ⟨m, hn.sameBut hs (Ne.symm (cne x c hc)), fun j y v' e1 e2 e3 => ?_⟩, fun y c' e => ?_, I.free, I.freeC, fun p hp => ?_, tracked ⟨oc, hoc, I.freeC x c hc⟩ hs, by simpa using I.len⟩ ⟨c, hs, .inr hc⟩
    · exact (hs.2 b (Nat.ne_of_lt (Nat.lt_of_lt_of_le (Heap.lt_size e) (I.ok.cab x c hfn hc)))).trans (I.base.keep b o e n hb hx)
    · obtain ⟨sl, e1⟩ := I.base.slot b o e n hb hx
      exact ⟨sl, (hs.2 b (Nat.ne_of_lt (Nat.lt_of_lt_of_le (Heap.lt_size e) (I.ok.cab x c hfn hc)))).trans e1⟩
    · obtain ⟨o', e1⟩ := I.base.there b o e hx
      exact ⟨o', (hs.2 b (Nat.ne_of_lt (Nat.lt_of_lt_of_le (Heap.lt_size e) (I.ok.cab x c hfn hc)))).trans e1⟩
    · by_cases hj : j = i
      · subst hj
        rw [hi] at e1; cases e1
        rw [List.getElem?_set_self hiσ] at e2
        cases e2
        exact ⟨u, r, .inr ⟨.inl hk, c, hc, hc'⟩⟩
      · rw [List.getElem?_set_ne (Ne.symm hj)] at e2
        obtain ⟨u', r', q⟩ := hl j y v' e1 e2 e3
        refine ⟨u', r', ?_⟩
        rcases q with q | ⟨k, c', e, z'⟩
        · exact .inl q
        · refine .inr ⟨k, c', e, z'.sameBut hs ?_⟩
          rintro rfl
          exact hj (nodup_ix hN e1 (I.ok.inj _ _ _ e hc ▸ hi))
    · by_cases hcc : c' = c
      · subst hcc; exact ⟨_, hc'⟩
      · obtain ⟨w2, z2⟩ := I.cell y c' e
        exact ⟨w2, z2.sameBut hs hcc⟩
    · obtain ⟨e, n, ne, nf, d⟩ := I.pin p hp
      refine ⟨(hs.2 p.1 ?_).trans e, n, ne, nf, d⟩
      intro q
      rw [q, hoc] at e
      have q' : oc = p.2 := Option.some.inj e
      exact d w' (by rw [← q']; exact hocd)
theorem store_ok {M : Model} {A : Around} {E : Value → Shared → Prop} {i : Nat} {x : Str} {v : V} {u : Value} {Q : Unit → Shared → Prop} (I : Inv X pins σ H s) (hN : X.N.Nodup) (hi : X.N[i]? = some x) (hx : Loc X.env.scope x) (r : RelV v u)
    (h : ∀ s', Inv X pins (σ.set i (some v)) H s' → Q () s') (hf : X.fn x = true ∨ X.env.scope.names.lookup x = some .local := by first | exact .inl rfl | exact .inr rfl | assumption) : wpAny M A (storeName X.env x u) Q E s :=
  store_ok2 I hN hi hx r (fun s' I' _ => h s' I') hf
theorem Inv.call' {s' : Shared} {ch : List Addr} (I : Inv X pins σ H s) (ho : s'.os = s.os) (u : Un (frs X.stack) ch H H' s.heap s'.heap) (hok : HOk X.prog X.w H' s'.heap) (hg : AllBare s'.gens)
    (hch : ∀ b ∈ ch, (b ∈ X.ex ∨ X.s_0.heap.objs.size ≤ b) ∧ b ≠ X.env.locals ∧ (∀ x c, X.env.cells.lookup x = some c → c ≠ b) ∧ ∀ p ∈ X.pn ++ pins, p.1 ≠ b) : Inv X pins σ H' s' := by
  obtain ⟨h', g', d', t', o'⟩ := s'
  have e : o' = s.os := ho
  subst e
  exact I.call (g' := g') (t' := t') (d' := d') u hok hg hch
end
abbrev XK := Value → Option Addr → Hp → Prop
abbrev St := List (Option V)
abbrev VK := V → Hp → Prop
abbrev TE := St → Hp → VK → Prop
abbrev TT := St → Hp → (Bool → Hp → Prop) → Prop
abbrev TA := St → Hp → (List V → Hp → Prop) → Prop
structure Ends where
  nx : St → Hp → Prop
  rt : VK
  bk : St → Hp → Prop := fun _ _ => False
  ct : St → Hp → Prop := fun _ _ => False
abbrev TS := Ends → St → Hp → Prop
def EP (X : Cx) (pins : List (Addr × Obj)) (σ : St) (Q : VK) (u : Value) (s' : Shared) : Prop := ∃ v H', Inv X pins σ H' s' ∧ RelV v u ∧ Q v H'
def TP (X : Cx) (pins : List (Addr × Obj)) (σ : St) (Q : Bool → Hp → Prop) (b : Bool) (s' : Shared) : Prop := ∃ H', Inv X pins σ H' s' ∧ Q b H'
def AP (X : Cx) (pins : List (Addr × Obj)) (σ : St) (Q : List V → Hp → Prop) (us : List Value) (s' : Shared) : Prop := ∃ vs H', Inv X pins σ H' s' ∧ Vals vs us ∧ Q vs H'
def SP (X : Cx) (pins : List (Addr × Obj)) (D : Ends) (f : Flow) (s' : Shared) : Prop :=
  match f with
  | .next => ∃ σ' H', Inv X pins σ' H' s' ∧ D.nx σ' H'
  | .brk => ∃ σ' H', Inv X pins σ' H' s' ∧ D.bk σ' H'
  | .cont => ∃ σ' H', Inv X pins σ' H' s' ∧ D.ct σ' H'
  | .ret u => ∃ v σ' H', Inv X pins σ' H' s' ∧ RelV v u ∧ D.rt v H'
def PE (X : Cx) (e : Expr) (t : TE) : Prop :=
  ∀ (pins : List (Addr × Obj)) (s : Shared) (σ : St) (H : Hp) (Q : VK), Inv X pins σ H s → t σ H Q → wpAny (model X.prog X.w) X.A (eval e X.env) (EP X pins σ Q) X.xe s
def PT (X : Cx) (e : Expr) (t : TT) : Prop :=
  ∀ (pins : List (Addr × Obj)) (s : Shared) (σ : St) (H : Hp) (Q : Bool → Hp → Prop), Inv X pins σ H s → t σ H Q → wpAny (model X.prog X.w) X.A (isTrue e X.env (eval e X.env)) (TP X pins σ Q) X.xe s
def PW (X : Cx) (e : Expr) (t : TT) : Prop :=
  ∀ (whole : Sem Value) (pins : List (Addr × Obj)) (s : Shared) (σ : St) (H : Hp) (Q : Bool → Hp → Prop), Inv X pins σ H s → t σ H Q → wpAny (model X.prog X.w) X.A (isTrue e X.env whole) (TP X pins σ Q) X.xe s
theorem PW.pt {X : Cx} {e : Expr} {t : TT} (h : PW X e t) : PT X e t := h _
def PA (X : Cx) (es : List Expr) (t : TA) : Prop :=
  ∀ (pos : Pos) (pins : List (Addr × Obj)) (s : Shared) (σ : St) (H : Hp) (Q : List V → Hp → Prop), Inv X pins σ H s → t σ H Q → wpAny (model X.prog X.w) X.A (spliced (backTo pos (starEach es X.env))) (AP X pins σ Q) X.xe s
def PS (X : Cx) (st : Stmt) (t : TS) : Prop :=
  ∀ (pins : List (Addr × Obj)) (s : Shared) (σ : St) (H : Hp) (D : Ends), Inv X pins σ H s → t D σ H → wpAny (model X.prog X.w) X.A (exec st X.env) (SP X pins D) X.xe s
def PSs (X : Cx) (st : List Stmt) (t : TS) : Prop :=
  ∀ (pins : List (Addr × Obj)) (s : Shared) (σ : St) (H : Hp) (D : Ends), Inv X pins σ H s → t D σ H → wpAny (model X.prog X.w) X.A (execs st X.env) (SP X pins D) X.xe s
theorem thn {α : Type} {t : Sem α} {Q Q' : α → Shared → Prop} {M : Model} {A : Around} {E : Value → Shared → Prop} {s : Shared} (h : wpAny M A t Q E s) (hQ : ∀ a s, Q a s → Q' a s) : wpAny M A t Q' E s := wpAny_mono h hQ fun _ _ x => x
end L2
namespace L2
open PySem PySem.Spec PyProof.Rows
section
variable {X : Cx}
def tVar (i : Nat) : TE := fun σ H Q => ∃ v, σ[i]? = some (some v) ∧ Q v H
def tC (v : V) : TE := fun _ H Q => Q v H
theorem pe_var {i : Nat} {x : Str} {pos : Pos} (hN : X.N[i]? = some x) (hv : Vis X.env.scope x) (hd : (x == ("__debug__" : Str)) = false := by decide) (hcd : (x == ("__classdict__" : Str)) = false := by decide) : PE X (.Name x pos) (tVar i) := by
  intro pins s σ H Q I h
  obtain ⟨v, e, h⟩ := h
  obtain ⟨m, hn, hl⟩ := I.loc
  obtain ⟨u, r, l⟩ := hl i x v hN e hv
  have fin : EP X pins σ Q u s := ⟨v, H, I, r, h⟩
  rcases l with ⟨hk, hm⟩ | ⟨hk, c, hc, hcell⟩
  · exact wpAny_Name (wpAny_loadName_local I.ok.kind hk hn hm fin) hd
  · rcases hk with hk | hk
    · exact wpAny_Name (wpAny_loadName_cell I.ok.kind hk hc hcell fin) hd
    · exact wpAny_Name (wpAny_loadName_free I.ok.kind hk hc hcell fin hcd) hd
theorem pe_int {i j pos} : PE X (.Constant (.int i) j pos) (tC (.int i)) := fun _ _ _ H _ I h => wpAny_Constant_int ⟨.int i, H, I.tok _, ⟨_, rfl⟩, h⟩
theorem pe_bl {b j pos} : PE X (.Constant (.bool b) j pos) (tC (.bl b)) := fun _ _ _ H _ I h => Constant_bool ⟨.bl b, H, I, rfl, h⟩
theorem pe_non {j pos} : PE X (.Constant .none j pos) (tC .non) := fun _ _ _ H _ I h => Constant_none ⟨.non, H, I, rfl, h⟩
def Gl (X : Cx) (x : Str) : Prop := X.env.kindOf x = some .globalImplicit
theorem ld_glob {E : Value → Shared → Prop} {pins : List (Addr × Obj)} {s : Shared} {σ : St} {H : Hp} {x : Str} {u : Value} {pos : Pos} {Q : Value → Shared → Prop} (I : Inv X pins σ H s) (hg : Gl X x) (hm : X.mg x = some u) (h : Q u s)
    (hd : (x == ("__debug__" : Str)) = false := by decide) : wpAny (model X.prog X.w) X.A (eval (.Name x pos) X.env) Q E s :=
  Calls.Name_function_global I.ok.kind hg (Calls.loadGlobal_global (by rw [I.ok.glob]; exact I.mod.glob.keeps I.bk) hm h) hd
theorem ld_blt {E : Value → Shared → Prop} {pins : List (Addr × Obj)} {s : Shared} {σ : St} {H : Hp} {x : Str} {u : Value} {pos : Pos} {Q : Value → Shared → Prop} (I : Inv X pins σ H s) (hg : Gl X x) (hm : X.mg x = none) (hv : bootBuiltins x = some u) (h : Q u s)
    (hn : x ≠ "__name__" := by decide) (hd : (x == ("__debug__" : Str)) = false := by decide) : wpAny (model X.prog X.w) X.A (eval (.Name x pos) X.env) Q E s := by
  obtain ⟨mb, h1, h2⟩ := I.mod.blt
  exact Calls.Name_function_global I.ok.kind hg (Calls.loadGlobal_builtin (by rw [I.ok.glob]; exact I.mod.glob.keeps I.bk) hm (by rw [I.ok.blt]; exact h1.keeps I.bk) ((h2 x hn).trans hv) h) hd
theorem pe_glob {x : Str} {v : V} {u : Value} {pos : Pos} (hg : Gl X x) (hm : X.mg x = some u) (r : RelV v u) (hd : (x == ("__debug__" : Str)) = false := by decide) : PE X (.Name x pos) (tC v) :=
  fun _ _ _ H _ I h => ld_glob I hg hm ⟨v, H, I, r, h⟩ hd
variable {a b : Expr} {ta tb : TE} {pos : Pos}
def tB (t : TE) : TT := fun σ H Q => t σ H fun x H1 => ∃ c, x = .bl c ∧ Q c H1
theorem pt_val {e : Expr} {t : TE} (h : PE X e t) (he : ∀ whole, isTrue e X.env whole = (do let v ← whole; standAt e.pos; holding [v] (truthy v)) := by intro _; rfl) : PT X e (tB t) := by
  intro pins s σ H Q I hw
  refine isTrue_plain (thn (h pins s σ H _ I hw) fun v s1 ⟨x, H1, I1, r1, q1⟩ => ?_) (he _)
  obtain ⟨d, rfl, q⟩ := q1
  cases r1
  exact wpAny_truthy_bool ⟨H1, I1, q⟩
variable {tA tB' : TT} {rest : List Expr}
def tOr (t u : TT) : TT := fun σ H Q => t σ H fun c H1 => if c = true then Q true H1 else u σ H1 Q
def tNot (t : TT) : TT := fun σ H Q => t σ H fun c H1 => Q (!c) H1
theorem pw_or1 (ha : PT X a tA) : PW X (.BoolOp .Or [a] pos) tA := by
  intro wh pins s σ H Q I h
  refine isTrue_or (thn (ha pins s σ H Q I h) fun c s1 e => ?_)
  cases c with
  | false => exact isTrue_or_nil e
  | true => exact e
theorem pw_or (ha : PT X a tA) (hb : PW X (.BoolOp .Or (b :: rest) pos) tB') : PW X (.BoolOp .Or (a :: b :: rest) pos) (tOr tA tB') := by
  intro wh pins s σ H Q I h
  refine isTrue_or (thn (ha pins s σ H _ I h) fun c s1 ⟨H1, I1, q1⟩ => ?_)
  cases c with
  | true => exact ⟨H1, I1, q1⟩
  | false => exact hb wh pins s1 σ H1 Q I1 q1
theorem pt_not (ha : PT X a tA) : PT X (.UnaryOp .Not a pos) (tNot tA) := by
  intro pins s σ H Q I h
  exact isTrue_not (ha pins s σ H (fun c H1 => Q (!c) H1) I h)
def tAndV (ta tb : TE) : TE := fun σ H Q => ta σ H fun x H1 => ∃ c, x = .bl c ∧ if c = true then tb σ H1 Q else Q (.bl false) H1
theorem pe_one {op} {t : TE} (h : PE X a t) : PE X (.BoolOp op [a] pos) t := fun pins s σ H Q I hw => BoolOp_one (h pins s σ H Q I hw)
theorem pe_and (ha : PE X a ta) (hb : PE X (.BoolOp .And (b :: rest) pos) tb) : PE X (.BoolOp .And (a :: b :: rest) pos) (tAndV ta tb) := by
  intro pins s σ H Q I h
  refine BoolOp_and (thn (ha pins s σ H _ I h) fun v s1 ⟨x, H1, I1, r1, q1⟩ => ?_)
  obtain ⟨c, rfl, q1⟩ := q1
  cases r1
  refine wpAny_truthy_bool ?_
  cases c with
  | true => exact hb pins s1 σ H1 Q I1 q1
  | false => exact ⟨.bl false, H1, I1, rfl, q1⟩
end
end L2
namespace L2
open PySem PySem.Spec PyProof.Rows
def SqL (K : PySem.W.Frag) (H : Hp) (a : Addr) (xs : List V) : Prop :=
  Rd H a (.lst xs) ∨
    ∃ (o : Obj) (its : Array Value) (n : Nat), K.lookup a = some o ∧ o.cls = .type "list" ∧ o.dict = none ∧ o.data = .seq its n ∧ its.size ≤ sizeLine ∧ Vals xs its.toList
def SqT (K : PySem.W.Frag) (H : Hp) (a : Addr) (xs : List V) : Prop :=
  Rd H a (.tup xs) ∨
    ∃ (o : Obj) (its : Array Value) (n : Nat), K.lookup a = some o ∧ o.cls = .type "tuple" ∧ o.data = .seq its n ∧ its.size ≤ sizeLine ∧ Vals xs its.toList
def absV : Value → Option V
  | .none => some .non
  | .bool b => some (.bl b)
  | .int i _ => some (.int i)
  | .str x _ => some (.str x)
  | .bytes b _ => some (.byt b)
  | .float b _ => some (.flt b)
  | .ref a => some (.ref a)
  | .type n => some (.ty n)
  | _ => none
theorem RelV.abs {x : V} {u : Value} (r : RelV x u) : absV u = some x := by
  cases x with
  | non => cases r; rfl
  | bl _ => cases r; rfl
  | int _ => obtain ⟨t, rfl⟩ := r; rfl
  | str _ => obtain ⟨t, rfl⟩ := r; rfl
  | byt _ => obtain ⟨t, rfl⟩ := r; rfl
  | flt _ => obtain ⟨t, rfl⟩ := r; rfl
  | ref _ => cases r; rfl
  | ty _ => cases r; rfl
theorem RelV.inj {x y : V} {u : Value} (r : RelV x u) (q : RelV y u) : x = y := Option.some.inj (r.abs.symm.trans q.abs)
theorem Vals.inj : ∀ {xs ys : List V} {us : List Value}, Vals xs us → Vals ys us → xs = ys
  | _, _, _, .nil, .nil => rfl
  | _, _, _, .cons r t, .cons r' t' => by rw [r.inj r', Vals.inj t t']
section
variable {X : Cx} {pins : List (Addr × Obj)} {σ : St} {H : Hp} {s : Shared} {a : Addr} {xs ys : List V}
theorem SqL.of {K : PySem.W.Frag} (h : H a = some (.lst xs)) : SqL K H a xs := .inl (.inl h)
theorem SqT.of {K : PySem.W.Frag} (h : H a = some (.tup xs)) : SqT K H a xs := .inl (.inl h)
theorem Inv.list (I : Inv X pins σ H s) (h : SqL X.K H a xs) : ∃ its : List Value, Vals xs its ∧ PlainL s.heap a its.toArray ∧ xs.length ≤ sizeLine := by
  rcases h with h | ⟨o, its, n, hk, hc, hd, hs, hz, r⟩
  · obtain ⟨z, its, n, r, e⟩ := h.ok I.hok
    exact ⟨its, r, ⟨_, n, e, rfl, rfl, rfl⟩, z⟩
  · refine ⟨its.toList, r, ⟨o, n, I.kIn a o hk, hc, hd, by simpa using hs⟩, ?_⟩
    have e := r.length
    simp only [Array.length_toList] at e
    omega
theorem Inv.tuple (I : Inv X pins σ H s) (h : SqT X.K H a xs) : ∃ its : List Value, Vals xs its ∧ IsTup s.heap a its.toArray ∧ xs.length ≤ sizeLine := by
  rcases h with h | ⟨o, its, n, hk, hc, hs, hz, r⟩
  · obtain ⟨z, its, r, p⟩ := h.ok I.hok
    exact ⟨its, r, p, z⟩
  · refine ⟨its.toList, r, ⟨o, I.kIn a o hk, hc, n, by simpa using hs⟩, ?_⟩
    have e := r.length
    simp only [Array.length_toList] at e
    omega
theorem Inv.list_inj (I : Inv X pins σ H s) (h : SqL X.K H a xs) (h' : SqL X.K H a ys) : xs = ys := by
  obtain ⟨its, r, ⟨o, n, e, _, _, d⟩, _⟩ := I.list h
  obtain ⟨its', r', ⟨o', n', e', _, _, d'⟩, _⟩ := I.list h'
  rw [e] at e'; cases e'
  rw [d] at d'
  injection d' with d1 _
  have : its = its' := by simpa using congrArg Array.toList d1
  subst this
  exact r.inj r'
theorem Inv.tuple_inj (I : Inv X pins σ H s) (h : SqT X.K H a xs) (h' : SqT X.K H a ys) : xs = ys := by
  obtain ⟨its, r, ⟨o, e, _, n, d⟩, _⟩ := I.tuple h
  obtain ⟨its', r', ⟨o', e', _, n', d'⟩, _⟩ := I.tuple h'
  rw [e] at e'; cases e'
  rw [d] at d'
  injection d' with d1 _
  have : its = its' := by simpa using congrArg Array.toList d1
  subst this
  exact r.inj r'
end
abbrev Cx.wish (X : Cx) (E : Value → Shared → Prop) : Cx := { X with xe := E }
abbrev Cx.nox (X : Cx) : Cx := X.wish fun _ _ => False
theorem Cx.Ok.wish {X : Cx} (ok : X.Ok) (E : Value → Shared → Prop) : (X.wish E).Ok :=
  ⟨ok.mod, ok.kind, ok.glob, ok.blt, ok.above, ok.inj, ok.has, ok.cab, ok.hd, ok.frames, ok.stk, ok.exf, ok.bs, ok.bsz, ok.noex, ok.exfs, ok.funs, ok.frf⟩
theorem Cx.Ok.unwish {X : Cx} {E : Value → Shared → Prop} (ok : (X.wish E).Ok) : X.Ok :=
  ⟨ok.mod, ok.kind, ok.glob, ok.blt, ok.above, ok.inj, ok.has, ok.cab, ok.hd, ok.frames, ok.stk, ok.exf, ok.bs, ok.bsz, ok.noex, ok.exfs, ok.funs, ok.frf⟩
section
variable {X : Cx} {pins : List (Addr × Obj)} {σ : St} {H : Hp} {s : Shared} {E : Value → Shared → Prop}
theorem Inv.wish (I : Inv X pins σ H s) (E : Value → Shared → Prop) : Inv (X.wish E) pins σ H s := ⟨I.ok.wish E, I.os, I.bare, I.base, I.loc, I.cell, I.free, I.freeC, I.pin, I.hok, I.len⟩
theorem Inv.unwish (I : Inv (X.wish E) pins σ H s) : Inv X pins σ H s := ⟨I.ok.unwish, I.os, I.bare, I.base, I.loc, I.cell, I.free, I.freeC, I.pin, I.hok, I.len⟩
theorem SP.unwish {D : Ends} {f : Flow} {s' : Shared} (h : SP (X.wish E) pins D f s') : SP X pins D f s' := by
  cases f with
  | next => obtain ⟨σ', H', I, q⟩ := h; exact ⟨σ', H', I.unwish, q⟩
  | brk => obtain ⟨σ', H', I, q⟩ := h; exact ⟨σ', H', I.unwish, q⟩
  | cont => obtain ⟨σ', H', I, q⟩ := h; exact ⟨σ', H', I.unwish, q⟩
  | ret u => obtain ⟨v, σ', H', I, r, q⟩ := h; exact ⟨v, σ', H', I.unwish, r, q⟩
theorem PSs.nox {st : List Stmt} {t : TS} (h : PSs X.nox st t) : PSs X st t := fun pins s σ H D I hw =>
  wpAny_mono (h pins s σ H D (I.wish _) hw) (fun _ _ q => q.unwish) fun _ _ z => False.elim z
end
section
variable {X : Cx} {st : Stmt} {rest : List Stmt} {t u : TS} {e : Expr} {te : TE} {pos : Pos}
def tNext : TS := fun D σ H => D.nx σ H
def tSeq (t u : TS) : TS := fun D σ H => t { D with nx := u D } σ H
theorem pss_nil : PSs X [] tNext := fun _ _ σ H _ I h => wpAny_execs_nil ⟨σ, H, I, h⟩
theorem pss_cons (h1 : PS X st t) (h2 : PSs X rest u) : PSs X (st :: rest) (tSeq t u) := by
  intro pins s σ H D I h
  refine wpAny_execs_cons (thn (h1 pins s σ H { D with nx := u D } I h) fun f s1 q => ?_)
  cases f with
  | next =>
    obtain ⟨σ', H', I', q⟩ := q
    exact h2 pins s1 σ' H' D I' q
  | ret v => exact q
  | brk => exact q
  | cont => exact q
theorem pss_one (h1 : PS X st t) : PSs X [st] t := by
  intro pins s σ H D I h
  refine wpAny_execs_cons (thn (h1 pins s σ H D I h) fun f s1 q => ?_)
  cases f with
  | next => exact wpAny_execs_nil q
  | ret v => exact q
  | brk => exact q
  | cont => exact q
theorem Inv.quiet {pins : List (Addr × Obj)} {σ : St} {H : Hp} {s : Shared} (I : Inv X pins σ H s) : interactive X.env = false := by simp [interactive, I.ok.kind]
def tDrop (te : TE) : TS := fun D σ H => te σ H fun _ H1 => D.nx σ H1
theorem ps_expr (he : PE X e te) (hs : swapsWith e none pos.line X.env = pure false := by rfl) : PS X (.Expr e pos) (tDrop te) := by
  intro pins s σ H D I h
  exact wpAny_Expr_any (thn (he pins s σ H _ I h) fun v s1 ⟨x, H1, I1, r1, q1⟩ => ⟨σ, H1, I1, q1⟩) I.quiet hs
def tRet (te : TE) : TS := fun D σ H => te σ H D.rt
theorem ps_ret (he : PE X e te) : PS X (.Return (some e) pos) (tRet te) := by
  intro pins s σ H D I h
  exact wpAny_Return_some (thn (he pins s σ H _ I h) fun v s1 ⟨x, H1, I1, r1, q1⟩ => ⟨x, σ, H1, I1, r1, q1⟩)
def tIfS (c : TT) (t u : TS) : TS := fun D σ H => c σ H fun b H1 => if b = true then t D σ H1 else u D σ H1
theorem ps_if {c : Expr} {a b : List Stmt} {tc : TT} (hc : PT X c tc) (ha : PSs X a t) (hb : PSs X b u) : PS X (.If c a b pos) (tIfS tc t u) := by
  intro pins s σ H D I h
  refine wpAny_If (thn (hc pins s σ H _ I h) fun d s1 ⟨H1, I1, q1⟩ => ?_)
  cases d with
  | true => exact ha pins s1 σ H1 D I1 q1
  | false => exact hb pins s1 σ H1 D I1 q1
end
abbrev TG := V → St → Hp → (St → Hp → Prop) → Prop
abbrev TGs := List V → St → Hp → (St → Hp → Prop) → Prop
def PG (X : Cx) (target : Expr) (t : TG) : Prop :=
  ∀ (pins : List (Addr × Obj)) (s : Shared) (σ : St) (H : Hp) (v : V) (u : Value) (Q : St → Hp → Prop), Inv X pins σ H s → RelV v u → t v σ H Q →
    wpAny (model X.prog X.w) X.A (assign target X.env u) (fun _ s' => ∃ σ' H', Inv X pins σ' H' s' ∧ Q σ' H') X.xe s
def PGs (X : Cx) (ts : List Expr) (t : TGs) : Prop :=
  ∀ (pins : List (Addr × Obj)) (s : Shared) (σ : St) (H : Hp) (vs : List V) (us : List Value) (Q : St → Hp → Prop), Inv X pins σ H s → Vals vs us → t vs σ H Q →
    wpAny (model X.prog X.w) X.A (assignInOrder ((assignEach ts X.env).map (·.2)) us) (fun _ s' => ∃ σ' H', Inv X pins σ' H' s' ∧ Q σ' H') X.xe s
abbrev TIp := V → V → Hp → VK → Prop
def PIp (X : Cx) (op : Operator) (t : TIp) : Prop :=
  ∀ (pins : List (Addr × Obj)) (s : Shared) (σ : St) (H : Hp) (x y : V) (v u : Value) (Q : VK), Inv X pins σ H s → RelV x v → RelV y u → t x y H Q →
    wpAny (model X.prog X.w) X.A (inplaceOp op v u) (EP X pins σ Q) X.xe s
section
variable {X : Cx} {pos : Pos}
def gName (i : Nat) : TG := fun v σ H Q => Q (σ.set i (some v)) H
theorem pg_name {i : Nat} {x : Str} (hN : X.N.Nodup) (hi : X.N[i]? = some x) (hx : Loc X.env.scope x) (hf : X.fn x = true ∨ X.env.scope.names.lookup x = some .local := by first | exact .inl rfl | exact .inr rfl | assumption) : PG X (.Name x pos) (gName i) := by
  intro pins s σ H v u Q I r h
  exact wpAny_assign_Name (store_ok I hN hi hx r (fun s' I' => ⟨_, H, I', h⟩) hf)
def gNil : TGs := fun vs σ H Q => vs = [] ∧ Q σ H
def gCons (t : TG) (u : TGs) : TGs := fun vs σ H Q => ∃ v r, vs = v :: r ∧ t v σ H fun σ' H' => u r σ' H' Q
theorem pgs_nil : PGs X [] gNil := by
  intro pins s σ H vs us Q I r h
  obtain ⟨e, h⟩ := h
  subst e
  cases r
  exact assignInOrder_nil ⟨σ, H, I, h⟩
theorem pgs_cons {e : Expr} {es : List Expr} {t : TG} {u : TGs} (h1 : PG X e t) (h2 : PGs X es u)
    (hs : (assignEach (e :: es) X.env).map (·.2) = assign e X.env :: (assignEach es X.env).map (·.2) := by rfl) : PGs X (e :: es) (gCons t u) := by
  intro pins s σ H vs us Q I r h
  obtain ⟨v, vr, e1, h⟩ := h
  subst e1
  cases r with
  | cons r rr =>
    rw [hs]
    refine assignInOrder_cons (thn (h1 pins s σ H _ _ _ I r h) fun _ s1 ⟨σ1, H1, I1, q1⟩ => ?_)
    exact h2 pins s1 σ1 H1 _ _ Q I1 rr q1
def gTup (K : PySem.W.Frag) (n : Nat) (t : TGs) : TG := fun v σ H Q => ∃ a xs, v = .ref a ∧ SqT K H a xs ∧ xs.length = n ∧ t xs σ H Q
theorem pg_tup {es : List Expr} {k : Nat} {t : TGs} {n : Nat} (hc : X.calm = true) (h : PGs X es t)
    (hn : (assignEach es X.env).length = n := by rfl) (hst : (assignEach es X.env).findIdx? (·.1) = none := by rfl) : PG X (.Tuple es k pos) (gTup X.K n t) := by
  intro pins s σ H v u Q I r hw
  obtain ⟨a, xs, e1, hq, hl, hw⟩ := hw
  subst e1
  cases r
  obtain ⟨its, rv, ht, hz⟩ := I.tuple hq
  refine assign_Tuple_tuple (I.ok.hd hc) ht (by simp [hn, ← hl, rv.length]) hst fun h' hx => ?_
  have I1 : Inv X pins σ H { s with heap := h' } := I.kept (t' := s.toks) fun b o e => hx b o (Nat.ne_of_lt (Heap.lt_size e)) e
  exact h pins _ σ H xs _ Q I1 (by simpa using rv) hw
def tAsg (te : TE) (g : TG) : TS := fun D σ H => te σ H fun x H1 => g x σ H1 D.nx
theorem ps_set {i : Nat} {x : Str} {e : Expr} {te : TE} {pos' : Pos} (hN : X.N.Nodup) (hi : X.N[i]? = some x) (hx : Loc X.env.scope x) (he : PE X e te) (hs : swapsWith e (some (.Name x pos')) pos.line X.env = pure false := by rfl) (hf : X.fn x = true ∨ X.env.scope.names.lookup x = some .local := by first | exact .inl rfl | exact .inr rfl | assumption) :
    PS X (.Assign [.Name x pos'] e pos) (tAsg te (gName i)) := by
  intro pins s σ H D I h
  refine wpAny_Assign_Name (thn (he pins s σ H _ I h) fun v s1 ⟨y, H1, I1, r1, q1⟩ => ?_) hs
  exact store_ok I1 hN hi hx r1 (fun s2 I2 => ⟨_, H1, I2, q1⟩) hf
def tAug (i : Nat) (te : TE) (ti : TIp) : TS := fun D σ H => ∃ x, σ[i]? = some (some x) ∧ te σ H fun y H1 => ti x y H1 fun z H2 => D.nx (σ.set i (some z)) H2
theorem ps_aug {i : Nat} {x : Str} {e : Expr} {te : TE} {op : Operator} {ti : TIp} {pos' : Pos} (hN : X.N.Nodup) (hi : X.N[i]? = some x) (hx : Loc X.env.scope x) (he : PE X e te) (ho : PIp X op ti) (hf : X.fn x = true ∨ X.env.scope.names.lookup x = some .local := by first | exact .inl rfl | exact .inr rfl | assumption) :
    PS X (.AugAssign (.Name x pos') op e pos) (tAug i te ti) := by
  intro pins s σ H D I h
  obtain ⟨v, e1, h⟩ := h
  obtain ⟨m, hn, hl⟩ := I.loc
  have vis : Vis X.env.scope x := by rcases hx with k | k; exact .inl k; exact .inr (.inl k)
  obtain ⟨u, r, l⟩ := hl i x v hi e1 vis
  refine wpAny_AugAssign_Name ?_
  have go : wpAny (model X.prog X.w) X.A (eval e X.env) (fun w s₂ => wpAny (model X.prog X.w) X.A (inplaceOp op u w) (fun r s₃ => wpAny (model X.prog X.w) X.A (storeName X.env x r) (fun _ => SP X pins D .next) X.xe s₃) X.xe s₂) X.xe s := by
    refine thn (he pins s σ H _ I h) fun w s1 ⟨y, H1, I1, r1, q1⟩ => ?_
    refine thn (ho pins s1 σ H1 v y u w _ I1 r r1 q1) fun z s2 ⟨zv, H2, I2, r2, q2⟩ => ?_
    exact store_ok I2 hN hi hx r2 (fun s3 I3 => ⟨_, H2, I3, q2⟩) hf
  rcases l with ⟨hk, hm⟩ | ⟨hk, c, hc, hcell⟩
  · exact wpAny_loadName_local I.ok.kind hk hn hm go
  · rcases hk with hk | hk
    · exact wpAny_loadName_cell I.ok.kind hk hc hcell go
    · rcases hx with k | k
      · have : X.env.scope.names.lookup x = some .free := hk
        rw [k] at this; cases this
      · have : X.env.scope.names.lookup x = some .free := hk
        rw [k] at this; cases this
end
section
variable {X : Cx} {pos : Pos}
end
structure It where
  go : Nat → Hp → Prop
  yld : Nat → Hp → V → Hp → Prop
  stop : Nat → Hp → Prop
def FpOk (X : Cx) (pins : List (Addr × Obj)) (H : Hp) (b : Addr) : Prop :=
  H b = none ∧ b ≠ X.env.locals ∧ b ∉ X.fs ∧ (b ∈ X.ex ∨ X.s_0.heap.objs.size ≤ b) ∧ (∀ x c, X.env.cells.lookup x = some c → c ≠ b) ∧ ∀ p ∈ X.pn ++ pins, p.1 ≠ b
theorem Inv.fpOk {X : Cx} {pins : List (Addr × Obj)} {σ : St} {H H' : Hp} {s : Shared} {b : Addr} (I : Inv X pins σ H s) (hb : s.heap.objs.size ≤ b) (hn : H' b = none) : FpOk X pins H' b := by
  refine ⟨hn, Nat.ne_of_gt (Nat.lt_of_lt_of_le I.lt hb), I.nofs hb, .inr (Nat.le_trans I.sz hb), fun x c e z => ?_, fun p hp z => ?_⟩
  · obtain ⟨v, q⟩ := I.cell x c e
    exact absurd (Nat.lt_of_lt_of_le q.lt (by rw [z]; exact hb)) (Nat.lt_irrefl _)
  · exact absurd (Nat.lt_of_lt_of_le (Heap.lt_size (I.pin p hp).1) (by rw [z]; exact hb)) (Nat.lt_irrefl _)
structure Turn (P : Program) (w : World) (K : PySem.W.Frag) (tg : Expr) (J : It) (fp : List Addr) (it : Addr) (tn : Nat → Heap → Prop) : Prop where
  mem : it ∈ fp
  obj : ∀ i h, tn i h → ∀ b ∈ fp, ∃ o, h.get? b = some o ∧ ∀ v, o.data ≠ .cell v
  keep : ∀ i h h', tn i h → (∀ b ∈ fp, ∀ o, h.get? b = some o → h'.get? b = some o) → tn i h'
  item : ∀ (X : Cx), X.prog = P → X.w = w → X.K = K → X.calm = true → ∀ (i : Nat) (pins : List (Addr × Obj)) (s : Shared) (σ : St) (H : Hp) (E : Value → Shared → Prop), Inv X pins σ H s → (∀ b ∈ fp, FpOk X pins H b) → tn i s.heap → J.go i H →
    wpAny (model P w) X.A (pyNext (.ref it)) (fun r s1 => ∃ u, r = some u ∧
      wpAny (model P w) X.A (letOwnedTupleGo tg (.ref it) u) (fun _ s2 => ∃ x H', Inv X pins σ H' s2 ∧ RelV x u ∧ J.yld i H x H' ∧ tn (i + 1) s2.heap ∧ ∀ b ∈ fp, H' b = none) E s1) E s
  done : ∀ (X : Cx), X.prog = P → X.w = w → X.K = K → X.calm = true → ∀ (i : Nat) (pins : List (Addr × Obj)) (s : Shared) (σ : St) (H : Hp) (E : Value → Shared → Prop), Inv X pins σ H s → (∀ b ∈ fp, FpOk X pins H b) → tn i s.heap → J.stop i H →
    wpAny (model P w) X.A (pyNext (.ref it)) (fun r s1 => r = none ∧ Inv X pins σ H s1) E s
  self : ∀ (A : Around) (i : Nat) (s : Shared) (Q : Value → Shared → Prop) (E : Value → Shared → Prop), tn i s.heap → Q (.ref it) s → wpAny (model P w) A (pyIter (.ref it)) Q E s
abbrev TI := St → Hp → (It → Hp → Prop) → Prop
def PIE (X : Cx) (pins : List (Addr × Obj)) (σ : St) (tg : Expr) (R : It → Hp → Prop) (itv : Value) (s2 : Shared) : Prop :=
  ∃ (it : Addr) (fp : List Addr) (tn : Nat → Heap → Prop) (J : It) (H' : Hp), itv = .ref it ∧ Inv X pins σ H' s2 ∧ Turn X.prog X.w X.K tg J fp it tn ∧ tn 0 s2.heap ∧ (∀ b ∈ fp, FpOk X pins H' b) ∧ R J H'
def PI (X : Cx) (tg iter : Expr) (wi : TI) : Prop :=
  ∀ (pins : List (Addr × Obj)) (s : Shared) (σ : St) (H : Hp) (R : It → Hp → Prop), Inv X pins σ H s → wi σ H R →
    wpAny (model X.prog X.w) X.A (eval iter X.env) (fun v s1 => wpAny (model X.prog X.w) X.A (pyIter v) (PIE X pins σ tg R) X.xe s1) X.xe s
theorem go_of {M : Model} {A : Around} {E : Value → Shared → Prop} {s : Shared} {tg : Expr} {it : Addr} {u : Value} {o : Obj} {n : String} {vs : Array Value} {Q : Unit → Shared → Prop} (ho : s.heap.get? it = some o) (hc : o.cls = .type n) (hd : o.data = .fields vs)
    (hn : ["enumerate", "zip", "dict_itemiterator", "dict_reverseitemiterator", "odict_iterator", "itertools.zip_longest", "itertools.pairwise"].contains n = false) (hQ : Q () s) : wpAny M A (letOwnedTupleGo tg (.ref it) u) Q E s := by
  unfold letOwnedTupleGo
  cases tg <;> first
    | exact wpAny_pure hQ
    | (cases u <;> first
        | exact wpAny_pure hQ
        | (refine wpAny_bind (wpAny_load ho ?_)
           rw [hc, hd]
           show wpAny M A (if (["enumerate", "zip", "dict_itemiterator", "dict_reverseitemiterator", "odict_iterator", "itertools.zip_longest", "itertools.pairwise"].contains n && vs[0]? == some (rawInt _)) = true then _ else _) Q E s
           rw [if_neg (by intro h; rw [hn, Bool.false_and] at h; cases h)]
           exact wpAny_pure hQ))
def Itl (K : PySem.W.Frag) (a : Addr) : It :=
  ⟨fun i H => ∃ xs x, SqL K H a xs ∧ xs[i]? = some x, fun i H x H' => H' = H ∧ ∀ xs, SqL K H a xs → xs[i]? = some x, fun i H => ∃ xs, SqL K H a xs ∧ xs.length ≤ i⟩
def Itr (lo : Int) (n : Nat) : It := ⟨fun i _ => i < n, fun i H x H' => H' = H ∧ x = .int (lo + i), fun i _ => n ≤ i⟩
theorem turn_list {P : Program} {w : World} {K : PySem.W.Frag} {tg : Expr} (a it : Addr) : Turn P w K tg (Itl K a) [it] it (fun i h => h.IsListIter it a i) where
  mem := by simp
  obj := fun i h st b hb => by
    have e : b = it := by simpa using hb
    subst e
    obtain ⟨o, e, c, d⟩ := st
    exact ⟨o, e, fun v z => by rw [d] at z; cases z⟩
  keep := fun i h h' st k => st.at fun o e => k it (by simp) o e
  item := by
    intro X hP hw hK hc i pins s σ H E I hf st hg
    subst hP hw hK
    obtain ⟨xs, x, hq, hx⟩ := hg
    obtain ⟨its, rv, p, hz⟩ := I.list hq
    obtain ⟨u, hu, ru⟩ := rv.get hx
    obtain ⟨f0, f1, f2, f3, f4, f5⟩ := hf it (by simp)
    refine wpAny_pyNext_list_item st p.isList (x := u) (by simpa using hu) fun h' st' sb => ?_
    have I1 : Inv X pins σ H { s with heap := h' } := I.turned (t' := s.toks) (fun b o hb e => (sb.2 b hb).trans e) f0 f1 f3 f4 f5
    obtain ⟨o, e, c, d⟩ := id st'
    exact ⟨u, rfl, go_of (s := { s with heap := h' }) e c d (by decide) ⟨x, H, I1, ru, ⟨rfl, fun ys hy => by rw [I.list_inj hy hq]; exact hx⟩, st', fun b hb => (hf b hb).1⟩⟩
  done := by
    intro X hP hw hK hc i pins s σ H E I hf st hg
    subst hP hw hK
    obtain ⟨xs, hq, hx⟩ := hg
    obtain ⟨its, rv, p, hz⟩ := I.list hq
    obtain ⟨f0, f1, f2, f3, f4, f5⟩ := hf it (by simp)
    have hl := rv.length
    exact wpAny_pyNext_list_end (I.ok.hd hc) st p.isList (by simp; omega) fun h' eb => ⟨rfl, I.turned (t' := s.toks) (fun b o hb e => eb b o hb e) f0 f1 f3 f4 f5⟩
  self := fun _ _ _ _ _ st h => wpAny_pyIter_listiter st h
theorem turn_range {P : Program} {w : World} {K : PySem.W.Frag} {tg : Expr} (it : Addr) (lo : Int) (n : Nat) : Turn P w K tg (Itr lo n) [it] it (fun i h => IsRangeIter h it (lo + (i : Nat) * 1) ((n : Int) - (i : Nat)) 1) where
  mem := by simp
  obj := fun i h st b hb => by
    have e : b = it := by simpa using hb
    subst e
    exact ⟨_, st, fun v z => by
      have z' : Data.fields _ = Data.cell v := z
      cases z'⟩
  keep := fun i h h' st k => k it (by simp) _ st
  item := by
    intro X hP hw hK hc i pins s σ H E I hf st hg
    subst hP hw hK
    obtain ⟨f0, f1, f2, f3, f4, f5⟩ := hf it (by simp)
    have W := Walks.range (prog := X.prog) (w := X.w) (I.ok.hd hc) it lo 1 n
    refine W.item i s _ _ hg st fun v h' tk hv st' kk => ?_
    obtain ⟨t, rfl⟩ := hv
    have I1 : Inv X pins σ H { s with heap := h', toks := tk } := I.turned (fun b o hb e => kk b o (by simpa using hb) e) f0 f1 f3 f4 f5
    refine ⟨_, rfl, go_of (s := { s with heap := h', toks := tk }) (n := "range_iterator") st' rfl rfl (by decide) ⟨.int (lo + i), H, I1, ⟨t, ?_⟩, ⟨rfl, rfl⟩, st', fun b hb => (hf b hb).1⟩⟩
    rw [Int.mul_one]
  done := by
    intro X hP hw hK hc i pins s σ H E I hf st hg
    subst hP hw hK
    obtain ⟨f0, f1, f2, f3, f4, f5⟩ := hf it (by simp)
    exact wpAny_pyNext_range_end (I.ok.hd hc) st (by have : n ≤ i := hg; omega) fun h' eb => ⟨rfl, I.turned (t' := s.toks) (fun b o hb e => eb b o hb e) f0 f1 f3 f4 f5⟩
  self := fun _ _ _ _ _ st h => wpAny_pyIter_rangeiter st h
end L2
namespace L2
open PySem PySem.Spec PyProof.Rows
section
variable {X : Cx} {tg : Expr}
def iList (K : PySem.W.Frag) (tl : TE) : TI := fun σ H R => tl σ H fun x H1 => ∃ a, x = .ref a ∧ (∃ xs, SqL K H1 a xs) ∧ R (Itl K a) H1
theorem pi_list {l : Expr} {tl : TE} (hl : PE X l tl) : PI X tg l (iList X.K tl) := by
  intro pins s σ H R I h
  refine thn (hl pins s σ H _ I h) fun v s1 ⟨x, H1, I1, r1, q1⟩ => ?_
  obtain ⟨a, e, ⟨xs, hq⟩, q⟩ := q1
  subst e
  cases r1
  obtain ⟨its, rv, p, hz⟩ := I1.list hq
  refine wpAny_pyIter_list p.isList ?_
  refine ⟨s1.heap.objs.size, [s1.heap.objs.size], _, _, H1, rfl, I1.kept (t' := s1.toks) fun b o e => Heap.get?_push_of_some _ e, turn_list a _, ⟨_, Heap.get?_push_size _ rfl, rfl, rfl⟩, fun b hb => ?_, q⟩
  have e : b = s1.heap.objs.size := by simpa using hb
  subst e
  exact I1.fpOk (Nat.le_refl _) (I1.hok.fresh (Nat.le_refl _))
theorem range_it {pins : List (Addr × Obj)} {σ : St} {H : Hp} {s : Shared} {R : It → Hp → Prop} {E : Value → Shared → Prop} {lo hi : Int} {t u v : Tok} {tk : Nat} (I : Inv X pins σ H s) (h1 : -(2 ^ 62) ≤ lo) (h2 : lo < 2 ^ 62) (h3 : -(2 ^ 62) ≤ hi) (h4 : hi < 2 ^ 62)
    (q : R (Itr lo (hi - lo).toNat) H) : wpAny (model X.prog X.w) X.A (pyIter (.ref s.heap.objs.size)) (PIE X pins σ tg R) E { s with heap := s.heap.push { cls := .type "range", data := .fields #[.int lo t, .int hi u, .int 1 v] }, toks := tk } := by
  refine wpAny_pyIter_range (IsRange.new ..) (small_one h1 h2 h3 h4) ?_
  have I1 : Inv X pins σ H { s with heap := s.heap.push { cls := .type "range", data := .fields #[.int lo t, .int hi u, .int 1 v] }, toks := tk } := I.kept fun b o e => Heap.get?_push_of_some _ e
  refine ⟨(s.heap.push { cls := .type "range", data := .fields #[.int lo t, .int hi u, .int 1 v] }).objs.size, [(s.heap.push { cls := .type "range", data := .fields #[.int lo t, .int hi u, .int 1 v] }).objs.size], _, _, H, rfl,
    I1.kept (t' := tk) fun b o e => Heap.get?_push_of_some _ e, turn_range _ lo (hi - lo).toNat, ?_, fun b hb => ?_, q⟩
  · have e1 : lo + ((0 : Nat) : Int) * 1 = lo := by simp
    have e2 : (((hi - lo).toNat : Nat) : Int) - ((0 : Nat) : Int) = Builtin.Range.rangeSize lo hi 1 := by rw [rangeSize_one]; split <;> omega
    show IsRangeIter _ _ (lo + ((0 : Nat) : Int) * 1) ((((hi - lo).toNat : Nat) : Int) - ((0 : Nat) : Int)) 1
    rw [e1, e2]
    exact Heap.get?_push_size _ rfl
  · have e : b = (s.heap.push { cls := .type "range", data := .fields #[.int lo t, .int hi u, .int 1 v] }).objs.size := by simpa using hb
    subst e
    exact I1.fpOk (Nat.le_refl _) (I1.hok.fresh (Nat.le_refl _))
def iRng1 (ta : TA) : TI := fun σ H R => ta σ H fun vs H1 => ∃ j : Int, vs = [.int j] ∧ -(2 ^ 62) ≤ j ∧ j < 2 ^ 62 ∧ R (Itr 0 j.toNat) H1
def iRng2 (ta : TA) : TI := fun σ H R => ta σ H fun vs H1 => ∃ i j : Int, vs = [.int i, .int j] ∧ (-(2 ^ 62) ≤ i ∧ i < 2 ^ 62 ∧ -(2 ^ 62) ≤ j ∧ j < 2 ^ 62) ∧ R (Itr i (j - i).toNat) H1
theorem pi_range1 {a : Expr} {ta : TA} {p pos : Pos} (hg : Gl X "range") (hm : X.mg "range" = none) (ha : PA X [a] ta) (hs : starEach [a] X.env = [(false, eval a X.env)] := by rfl) : PI X tg (.Call (.Name "range" p) [a] [] pos) (iRng1 ta) := by
  intro pins s σ H R I h
  refine Call_ (ld_blt I hg hm boot_range (PyProof.Rows.callWith_type1 (thn (ha pos pins s σ H _ I h) fun us s1 ⟨vs, H1, I1, r1, q1⟩ => ?_) hs rfl))
  obtain ⟨j, e, q1, q2, q⟩ := q1
  subst e
  cases r1 with
  | cons r rr =>
    cases rr
    obtain ⟨t, rfl⟩ := r
    exact call_range_1 (range_it I1 (by omega) (by omega) q1 q2 (by simpa using q))
theorem pi_range2 {a b : Expr} {ta : TA} {p pos : Pos} (hg : Gl X "range") (hm : X.mg "range" = none) (ha : PA X [a, b] ta) (hs : starEach [a, b] X.env = [(false, eval a X.env), (false, eval b X.env)] := by rfl) (hs2 : starEach [b] X.env = [(false, eval b X.env)] := by rfl) :
    PI X tg (.Call (.Name "range" p) [a, b] [] pos) (iRng2 ta) := by
  intro pins s σ H R I h
  refine Call_ (ld_blt I hg hm boot_range (PyProof.Rows.callWith_type1 (thn (ha pos pins s σ H _ I h) fun us s1 ⟨vs, H1, I1, r1, q1⟩ => ?_) (by rw [hs, hs2]) (by rw [hs2]; rfl)))
  obtain ⟨i, j, e, ⟨q1, q2, q3, q4⟩, q⟩ := q1
  subst e
  cases r1 with
  | cons r rr =>
    cases rr with
    | cons r' rr =>
      cases rr
      obtain ⟨t, rfl⟩ := r
      obtain ⟨t', rfl⟩ := r'
      exact call_range_2 (range_it I1 q1 q2 q3 q4 q)
def tFor (wi : TI) (g : TG) (tb : TS) : TS := fun D σ H => wi σ H fun J H1 => ∃ W : Nat → Nat → St → Hp → Prop, (∃ m, W 0 m σ H1) ∧ ∀ i m σ H, W i m σ H →
  (J.stop i H ∧ D.nx σ H) ∨ (J.go i H ∧ ∃ N : St → Hp → Prop, (∀ σ' H', N σ' H' → ∃ m', m' < m ∧ W (i + 1) m' σ' H') ∧ ∀ x H', J.yld i H x H' → g x σ H' fun σ2 H2 => tb { D with nx := N, ct := N, bk := D.nx } σ2 H2)
def pinsAt (fp : List Addr) (h : Heap) : List (Addr × Obj) := fp.filterMap fun b => (h.get? b).map fun o => (b, o)
theorem mem_pinsAt {fp : List Addr} {h : Heap} {b : Addr} {o : Obj} (hb : b ∈ fp) (e : h.get? b = some o) : (b, o) ∈ pinsAt fp h := List.mem_filterMap.mpr ⟨b, hb, by rw [e]; rfl⟩
theorem of_pinsAt {fp : List Addr} {h : Heap} {p : Addr × Obj} (hp : p ∈ pinsAt fp h) : p.1 ∈ fp ∧ h.get? p.1 = some p.2 := by
  obtain ⟨b, hb, e⟩ := List.mem_filterMap.mp hp
  cases q : h.get? b with
  | none => rw [q] at e; cases e
  | some o =>
    rw [q] at e
    have e' : (b, o) = p := Option.some.inj e
    subst e'
    exact ⟨hb, q⟩
theorem Inv.pinned {pins : List (Addr × Obj)} {σ : St} {H : Hp} {s : Shared} {fp : List Addr} (I : Inv X pins σ H s) (hf : ∀ b ∈ fp, FpOk X pins H b) (ho : ∀ b ∈ fp, ∃ o, s.heap.get? b = some o ∧ ∀ v, o.data ≠ .cell v) : Inv X (pins ++ pinsAt fp s.heap) σ H s :=
  I.pins_of fun p hp => (List.mem_append.mp hp).elim (fun z => I.pin p (List.mem_append_right _ z)) fun z => by
    obtain ⟨hb, e⟩ := of_pinsAt z
    obtain ⟨f0, f1, f2, _⟩ := hf p.1 hb
    obtain ⟨o, e', d⟩ := ho p.1 hb
    rw [e] at e'; cases e'
    exact ⟨e, f0, f1, f2, d⟩
theorem Inv.unpinned {pins pl : List (Addr × Obj)} {σ : St} {H : Hp} {s : Shared} (I : Inv X (pins ++ pl) σ H s) : Inv X pins σ H s := I.pins_of fun p hp => I.pin p (List.mem_append_right _ (List.mem_append_left _ hp))
theorem ps_for {iter : Expr} {body : List Stmt} {wi : TI} {g : TG} {tb : TS} {pos : Pos} (hp : PassesOwn (model X.prog X.w) X.A X.env X.xe) (hc : X.calm = true) (hi : PI X tg iter wi) (hg : PG X tg g) (hb : PSs X body tb)
    (hs : ∀ x, foldedSetIterable iter X.env x = pure x := by intro _; rfl) : PS X (.For tg iter body [] pos) (tFor wi g tb) := by
  intro pins s σ H D I h
  refine wpAny_For (thn (hi pins s σ H _ I h) fun v s1 h1 => thn h1 fun itv s2 h2 => ?_) hs
  obtain ⟨it, fp, tn, J, H2, e, I2, T, st2, f2, W, ⟨m0, w0⟩, turn⟩ := h2
  subst e
  have stat : ∀ {H' : Hp}, (∀ b ∈ fp, H' b = none) → ∀ b ∈ fp, FpOk X pins H' b := fun hn b hb => ⟨hn b hb, (f2 b hb).2⟩
  refine codeAny_forLoop_any (fun n s' => ∃ i σ' H', Inv X pins σ' H' s' ∧ tn i s'.heap ∧ (∀ b ∈ fp, H' b = none) ∧ W i n σ' H') ?_ m0 ⟨0, σ, H2, I2, st2, fun b hb => (f2 b hb).1, w0⟩
  rintro n s3 ⟨i, σ3, H3, I3, st3, fr3, w3⟩
  rcases turn i n σ3 H3 w3 with ⟨stop, qn⟩ | ⟨go, N, hN, step⟩
  · refine wpAny_passesOwn hp (thn (T.done X rfl rfl rfl hc i pins s3 σ3 H3 X.xe I3 (stat fr3) st3 stop) fun r s4 ⟨hr, I4⟩ => ?_)
    subst hr
    exact wpAny_execs_nil ⟨σ3, H3, I4, qn⟩
  · refine wpAny_passesOwn hp (thn (T.item X rfl rfl rfl hc i pins s3 σ3 H3 X.xe I3 (stat fr3) st3 go) fun r s4 ⟨u, hr, h4⟩ => ?_)
    subst hr
    refine wpAny_passesOwn hp (thn h4 fun _ s5 ⟨x, H5, I5, r5, y5, st5, fr5⟩ => ?_)
    have I5' := I5.pinned (stat fr5) (T.obj _ _ st5)
    refine wpAny_passesOwn hp (thn (hg _ s5 σ3 H5 x u _ I5' r5 (step x H5 y5)) fun _ s6 ⟨σ6, H6, I6, q6⟩ => ?_)
    refine wpAny_passesOwn hp (thn (hb _ s6 σ6 H6 _ I6 q6) fun f s7 q7 => ?_)
    have again : ∀ {σ7 : St} {H7 : Hp}, Inv X (pins ++ pinsAt fp s5.heap) σ7 H7 s7 → N σ7 H7 → ∃ m, m < n ∧ ∃ i σ' H', Inv X pins σ' H' s7 ∧ tn i s7.heap ∧ (∀ b ∈ fp, H' b = none) ∧ W i m σ' H' := fun {σ7 H7} I7 n7 => by
      obtain ⟨m', hm, w7⟩ := hN σ7 H7 n7
      refine ⟨m', hm, i + 1, σ7, H7, I7.unpinned, T.keep _ _ _ st5 fun b hb o e => (I7.pin (b, o) (List.mem_append_right _ (List.mem_append_right _ (mem_pinsAt hb e)))).1, fun b hb => ?_, w7⟩
      obtain ⟨o, e, d⟩ := T.obj _ _ st5 b hb
      exact (I7.pin (b, o) (List.mem_append_right _ (List.mem_append_right _ (mem_pinsAt hb e)))).2.1
    cases f with
    | next => obtain ⟨σ7, H7, I7, n7⟩ := q7; exact again I7 n7
    | cont => obtain ⟨σ7, H7, I7, n7⟩ := q7; exact again I7 n7
    | brk => obtain ⟨σ7, H7, I7, q7⟩ := q7; exact ⟨σ7, H7, I7.unpinned, q7⟩
    | ret v => obtain ⟨x7, σ7, H7, I7, r7, q7⟩ := q7; exact ⟨x7, σ7, H7, I7.unpinned, r7, q7⟩
end
theorem for_list {K : PySem.W.Frag} {a : Addr} {xs : List V} {g : TG} {tb : TS} {D : Ends} {σ : St} {H : Hp} (Pv : Nat → St → Hp → Prop) (h0 : Pv 0 σ H) (hl : ∀ i σ H, i ≤ xs.length → Pv i σ H → SqL K H a xs)
    (hs : ∀ i x σ H, xs[i]? = some x → Pv i σ H → g x σ H fun σ2 H2 => tb { D with nx := Pv (i + 1), ct := Pv (i + 1), bk := D.nx } σ2 H2) (hd : ∀ σ H, Pv xs.length σ H → D.nx σ H) :
    ∃ W : Nat → Nat → St → Hp → Prop, (∃ m, W 0 m σ H) ∧ ∀ i m σ H, W i m σ H →
      ((Itl K a).stop i H ∧ D.nx σ H) ∨ ((Itl K a).go i H ∧ ∃ N : St → Hp → Prop, (∀ σ' H', N σ' H' → ∃ m', m' < m ∧ W (i + 1) m' σ' H') ∧ ∀ x H', (Itl K a).yld i H x H' → g x σ H' fun σ2 H2 => tb { D with nx := N, ct := N, bk := D.nx } σ2 H2) := by
  refine ⟨fun i m σ H => m = xs.length - i ∧ i ≤ xs.length ∧ Pv i σ H, ⟨xs.length, by simp, Nat.zero_le _, h0⟩, ?_⟩
  rintro i m σ H ⟨rfl, hi, p⟩
  have q := hl i σ H hi p
  by_cases hlt : i < xs.length
  · refine .inr ⟨⟨xs, xs[i], q, by simp [hlt]⟩, Pv (i + 1), fun σ' H' p' => ⟨xs.length - (i + 1), by omega, rfl, hlt, p'⟩, fun x H' y => ?_⟩
    obtain ⟨e, y⟩ := y
    subst e
    exact hs i x σ _ (y xs q) p
  · have e : i = xs.length := by omega
    subst e
    exact .inl ⟨⟨xs, q, Nat.le_refl _⟩, hd σ H p⟩
theorem for_range {lo : Int} {n : Nat} {g : TG} {tb : TS} {D : Ends} {σ : St} {H : Hp} (Pv : Nat → St → Hp → Prop) (h0 : Pv 0 σ H)
    (hs : ∀ i σ H, i < n → Pv i σ H → g (.int (lo + i)) σ H fun σ2 H2 => tb { D with nx := Pv (i + 1), ct := Pv (i + 1), bk := D.nx } σ2 H2) (hd : ∀ σ H, Pv n σ H → D.nx σ H) :
    ∃ W : Nat → Nat → St → Hp → Prop, (∃ m, W 0 m σ H) ∧ ∀ i m σ H, W i m σ H →
      ((Itr lo n).stop i H ∧ D.nx σ H) ∨ ((Itr lo n).go i H ∧ ∃ N : St → Hp → Prop, (∀ σ' H', N σ' H' → ∃ m', m' < m ∧ W (i + 1) m' σ' H') ∧ ∀ x H', (Itr lo n).yld i H x H' → g x σ H' fun σ2 H2 => tb { D with nx := N, ct := N, bk := D.nx } σ2 H2) := by
  refine ⟨fun i m σ H => m = n - i ∧ i ≤ n ∧ Pv i σ H, ⟨n, by simp, Nat.zero_le _, h0⟩, ?_⟩
  rintro i m σ H ⟨rfl, hi, p⟩
  by_cases hlt : i < n
  · refine .inr ⟨hlt, Pv (i + 1), fun σ' H' p' => ⟨n - (i + 1), by omega, rfl, hlt, p'⟩, fun x H' y => ?_⟩
    obtain ⟨e, y⟩ := y
    subst e y
    exact hs i σ _ hlt p
  · have e : i = n := by omega
    subst e
    exact .inl ⟨Nat.le_refl _, hd σ H p⟩
end L2
namespace L2
open PySem PySem.Spec PyProof.Rows
abbrev R2 := V → V → Hp → VK → Prop
def OpR (X : Cx) (f : Value → Value → Sem Value) (r : R2) : Prop :=
  ∀ (pins : List (Addr × Obj)) (s : Shared) (σ : St) (H : Hp) (x y : V) (v u : Value) (Q : VK), Inv X pins σ H s → RelV x v → RelV y u → r x y H Q →
    wpAny (model X.prog X.w) X.A (f v u) (EP X pins σ Q) X.xe s
def UnR (X : Cx) (f : Value → Sem Value) (r : V → Hp → VK → Prop) : Prop :=
  ∀ (pins : List (Addr × Obj)) (s : Shared) (σ : St) (H : Hp) (x : V) (v : Value) (Q : VK), Inv X pins σ H s → RelV x v → r x H Q →
    wpAny (model X.prog X.w) X.A (f v) (EP X pins σ Q) X.xe s
def CallR (X : Cx) (f : Value) (r : List V → Hp → VK → Prop) : Prop :=
  ∀ (pins : List (Addr × Obj)) (s : Shared) (σ : St) (H : Hp) (xs : List V) (us : List Value) (Q : VK), Inv X pins σ H s → Vals xs us → r xs H Q →
    wpAny (model X.prog X.w) X.A (call f us) (EP X pins σ Q) X.xe s
def tOp (r : R2) (ta tb : TE) : TE := fun σ H Q => ta σ H fun x H1 => tb σ H1 fun y H2 => r x y H2 Q
def tUn (r : V → Hp → VK → Prop) (ta : TE) : TE := fun σ H Q => ta σ H fun x H1 => r x H1 Q
def rI (C : Int → Int → Prop) (g : Int → Int → V) : R2 := fun x y H Q => ∃ i j, x = .int i ∧ y = .int j ∧ C i j ∧ Q (g i j) H
def rI0 (g : Int → Int → V) : R2 := fun x y H Q => ∃ i j, x = .int i ∧ y = .int j ∧ Q (g i j) H
def rU (g : Int → V) : V → Hp → VK → Prop := fun x H Q => ∃ i, x = .int i ∧ Q (g i) H
section
variable {X : Cx} {a b c : Expr} {ta tb tc : TE} {pos : Pos}
theorem binT (ha : PE X a ta) (hb : PE X b tb) {pins : List (Addr × Obj)} {s : Shared} {σ : St} {H : Hp} {R : V → V → Hp → Prop} (I : Inv X pins σ H s)
    (h : ta σ H fun x H1 => tb σ H1 fun y H2 => R x y H2) {Q : Value → Shared → Prop} {f : Value → Value → Sem Value}
    (hf : ∀ v u s2 x y H2, Inv X pins σ H2 s2 → RelV x v → RelV y u → R x y H2 → wpAny (model X.prog X.w) X.A (f v u) Q X.xe s2) :
    wpAny (model X.prog X.w) X.A (eval a X.env) (fun v s₁ => wpAny (model X.prog X.w) X.A (eval b X.env) (fun u s₂ => wpAny (model X.prog X.w) X.A (f v u) Q X.xe s₂) X.xe s₁) X.xe s := by
  refine thn (ha pins s σ H _ I h) fun v s1 ⟨x, H1, I1, r1, q1⟩ => ?_
  refine thn (hb pins s1 σ H1 _ I1 q1) fun u s2 ⟨y, H2, I2, r2, q2⟩ => ?_
  exact hf v u s2 x y H2 I2 r1 r2 q2
theorem pe_op {op : Operator} {r : R2} (ho : OpR X (binaryOp op) r) (ha : PE X a ta) (hb : PE X b tb) : PE X (.BinOp a op b pos) (tOp r ta tb) := by
  intro pins s σ H Q I h
  exact wpAny_BinOp (binT ha hb I h fun v u s2 x y H2 I2 rx ry q => ho pins s2 σ H2 x y v u Q I2 rx ry q)
theorem pe_un {op : UnaryOp} {r : V → Hp → VK → Prop} (ho : UnR X (unaryOp op) r) (ha : PE X a ta) : PE X (.UnaryOp op a pos) (tUn r ta) := by
  intro pins s σ H Q I h
  exact UnaryOp_ (thn (ha pins s σ H _ I h) fun v s1 ⟨x, H1, I1, r1, q1⟩ => ho pins s1 σ H1 x v Q I1 r1 q1)
theorem opI {f : Value → Value → Sem Value} {C : Int → Int → Prop} {g : Int → Int → Int}
    (rule : ∀ (i j : Int) (t u : Tok) (s : Shared) (Q : Value → Shared → Prop) (E : Value → Shared → Prop), C i j → Q (.int (g i j) s.toks) { s with toks := s.toks + 1 } → wpAny (model X.prog X.w) X.A (f (.int i t) (.int j u)) Q E s) :
    OpR X f (rI C fun i j => .int (g i j)) := by
  intro pins s σ H x y v u Q I rx ry h
  obtain ⟨i, j, rfl, rfl, hc, q⟩ := h
  obtain ⟨t, rfl⟩ := rx
  obtain ⟨t', rfl⟩ := ry
  exact rule i j t t' s _ _ hc ⟨.int (g i j), H, I.tok _, ⟨_, rfl⟩, q⟩
theorem opI0 {f : Value → Value → Sem Value} {g : Int → Int → Int}
    (rule : ∀ (i j : Int) (t u : Tok) (s : Shared) (Q : Value → Shared → Prop) (E : Value → Shared → Prop), Q (.int (g i j) s.toks) { s with toks := s.toks + 1 } → wpAny (model X.prog X.w) X.A (f (.int i t) (.int j u)) Q E s) :
    OpR X f (rI0 fun i j => .int (g i j)) := by
  intro pins s σ H x y v u Q I rx ry h
  obtain ⟨i, j, rfl, rfl, q⟩ := h
  obtain ⟨t, rfl⟩ := rx
  obtain ⟨t', rfl⟩ := ry
  exact rule i j t t' s _ _ ⟨.int (g i j), H, I.tok _, ⟨_, rfl⟩, q⟩
theorem opB0 {f : Value → Value → Sem Value} {g : Int → Int → Bool}
    (rule : ∀ (i j : Int) (t u : Tok) (s : Shared) (Q : Value → Shared → Prop) (E : Value → Shared → Prop), Q (.bool (g i j)) s → wpAny (model X.prog X.w) X.A (f (.int i t) (.int j u)) Q E s) :
    OpR X f (rI0 fun i j => .bl (g i j)) := by
  intro pins s σ H x y v u Q I rx ry h
  obtain ⟨i, j, rfl, rfl, q⟩ := h
  obtain ⟨t, rfl⟩ := rx
  obtain ⟨t', rfl⟩ := ry
  exact rule i j t t' s _ _ ⟨.bl (g i j), H, I, rfl, q⟩
def CMul (i j : Int) : Prop := (-(2 ^ 64) < i ∧ i < 2 ^ 64) ∨ (-(2 ^ 64) < j ∧ j < 2 ^ 64)
theorem CMul.ok {i j : Int} (h : CMul i j) : IntMulOk i j := by
  rcases h with ⟨h1, h2⟩ | ⟨h1, h2⟩
  · exact .of_left (intBits_le_64 h1 h2)
  · exact .of_right (intBits_le_64 h1 h2)
theorem two_pow_nn (k : Nat) : (0 : Int) ≤ 2 ^ k := by
  rw [two_pow_cast]
  exact Int.natCast_nonneg _
theorem op_add : OpR X (binaryOp .Add) (rI0 fun i j => .int (i + j)) := opI0 fun _ _ _ _ _ _ _ q => add_int q
theorem op_sub : OpR X (binaryOp .Sub) (rI0 fun i j => .int (i - j)) := opI0 fun _ _ _ _ _ _ _ q => sub_int q
theorem op_mul : OpR X (binaryOp .Mult) (rI CMul fun i j => .int (i * j)) := opI fun _ _ _ _ _ _ _ hc q => mul_int q hc.ok
theorem op_shr : OpR X (binaryOp .RShift) (rI (fun _ j => 0 ≤ j) fun i j => .int (i / 2 ^ j.toNat)) := opI fun i j _ _ _ _ _ hc q =>
  rshift_int hc (by rw [Int.fdiv_eq_ediv_of_nonneg i (two_pow_nn _)]; exact q)
theorem op_and : OpR X (binaryOp .BitAnd) (rI0 fun i j => .int (Builtin.bitAnd i j)) := opI0 fun _ _ _ _ _ _ _ q => and_int q
theorem op_or : OpR X (binaryOp .BitOr) (rI0 fun i j => .int (Builtin.bitOr i j)) := opI0 fun _ _ _ _ _ _ _ q => or_int q
theorem op_xor : OpR X (binaryOp .BitXor) (rI0 fun i j => .int (Builtin.bitXor i j)) := opI0 fun _ _ _ _ _ _ _ q => xor_int q
theorem iop_xor : OpR X (inplaceOp .BitXor) (rI0 fun i j => .int (Builtin.bitXor i j)) := opI0 fun _ _ _ _ _ _ _ q => ixor_int q
theorem unI {f : Value → Sem Value} {g : Int → Int}
    (rule : ∀ (i : Int) (t : Tok) (s : Shared) (Q : Value → Shared → Prop) (E : Value → Shared → Prop), Q (.int (g i) s.toks) { s with toks := s.toks + 1 } → wpAny (model X.prog X.w) X.A (f (.int i t)) Q E s) :
    UnR X f (rU fun i => .int (g i)) := by
  intro pins s σ H x v Q I rx h
  obtain ⟨i, rfl, q⟩ := h
  obtain ⟨t, rfl⟩ := rx
  exact rule i t s _ _ ⟨.int (g i), H, I.tok _, ⟨_, rfl⟩, q⟩
theorem un_neg : UnR X (unaryOp .USub) (rU fun i => .int (-i)) := unI fun _ _ _ _ _ q => neg_int q
end
def scal : V → V → Bool
  | .non, .non => true | .non, .int _ => true | .int _, .non => true | .non, .bl _ => true | .bl _, .non => true | .non, .str _ => true | .str _, .non => true
  | .int _, .int _ => true | .bl _, .bl _ => true | .str _, .str _ => true | .byt _, .byt _ => true
  | .int _, .str _ => true | .str _, .int _ => true | .bl _, .str _ => true | .str _, .bl _ => true
  | _, _ => false
def rEq : R2 := fun x y H Q => scal x y = true ∧ Q (.bl (decide (x = y))) H
def rNe : R2 := fun x y H Q => scal x y = true ∧ Q (.bl (!decide (x = y))) H
theorem dec_int {i j : Int} : decide (V.int i = V.int j) = (i == j) := by
  rw [Bool.eq_iff_iff]
  simp
theorem dec_bl {i j : Bool} : decide (V.bl i = V.bl j) = (i == j) := by
  rw [Bool.eq_iff_iff]
  simp
theorem dec_str {i j : Str} : decide (V.str i = V.str j) = (i == j) := by
  rw [Bool.eq_iff_iff]
  simp
theorem dec_byt {i j : Array UInt8} : decide (V.byt i = V.byt j) = (i.toList == j.toList) := by
  rw [Bool.eq_iff_iff]
  cases i
  cases j
  simp
section
variable {X : Cx} {a b c : Expr} {ta tb tc : TE} {pos : Pos}
theorem fin_bl {pins : List (Addr × Obj)} {σ : St} {H : Hp} {s : Shared} {Q : VK} {k k' : Bool} (I : Inv X pins σ H s) (q : Q (.bl k) H) (e : k = k') : EP X pins σ Q (.bool k') s := by
  subst e
  exact ⟨.bl k, H, I, rfl, q⟩
theorem op_eq : OpR X (compareOp .Eq) rEq := by
  intro pins s σ H x y v u Q I rx ry h
  obtain ⟨hs, q⟩ := h
  cases x with
  | non =>
    cases rx
    cases y with
    | non => cases ry; exact PySem.EqNone.eq_none_none (fin_bl I q (by simp))
    | bl j => cases ry; exact PySem.EqNone.eq_none_bool (fin_bl I q (by simp))
    | int j => obtain ⟨t', rfl⟩ := ry; exact PySem.EqNone.eq_none_int (fin_bl I q (by simp))
    | str j => obtain ⟨t', rfl⟩ := ry; exact PySem.EqNone.eq_none_str (fin_bl I q (by simp))
    | _ => exact absurd (show false = true from hs) Bool.false_ne_true
  | bl i =>
    cases rx
    cases y with
    | non => cases ry; exact PySem.EqNone.eq_bool_none (fin_bl I q (by simp))
    | bl j => cases ry; exact eq_bool (fin_bl I q dec_bl)
    | str j => obtain ⟨t', rfl⟩ := ry; exact PySem.EqMixed.eq_bool_str (fin_bl I q (by simp))
    | _ => exact absurd (show false = true from hs) Bool.false_ne_true
  | int i =>
    obtain ⟨t, rfl⟩ := rx
    cases y with
    | non => cases ry; exact PySem.EqNone.eq_int_none (fin_bl I q (by simp))
    | int j => obtain ⟨t', rfl⟩ := ry; exact eq_int (fin_bl I q dec_int)
    | str j => obtain ⟨t', rfl⟩ := ry; exact PySem.EqMixed.eq_int_str (fin_bl I q (by simp))
    | _ => exact absurd (show false = true from hs) Bool.false_ne_true
  | str i =>
    obtain ⟨t, rfl⟩ := rx
    cases y with
    | non => cases ry; exact PySem.EqNone.eq_str_none (fin_bl I q (by simp))
    | bl j => cases ry; exact PySem.EqMixed.eq_str_bool (fin_bl I q (by simp))
    | int j => obtain ⟨t', rfl⟩ := ry; exact PySem.EqMixed.eq_str_int (fin_bl I q (by simp))
    | str j => obtain ⟨t', rfl⟩ := ry; exact eq_str (fin_bl I q dec_str)
    | _ => exact absurd (show false = true from hs) Bool.false_ne_true
  | byt i =>
    obtain ⟨t, rfl⟩ := rx
    cases y with
    | byt j => obtain ⟨t', rfl⟩ := ry; exact PySem.W.eq_bytes (fin_bl I q dec_byt)
    | _ => exact absurd (show false = true from hs) Bool.false_ne_true
  | _ => cases y <;> exact absurd (show false = true from hs) Bool.false_ne_true
theorem op_ne : OpR X (compareOp .NotEq) rNe := by
  intro pins s σ H x y v u Q I rx ry h
  obtain ⟨hs, q⟩ := h
  cases x with
  | non =>
    cases rx
    cases y with
    | non => cases ry; exact PySem.EqNone.ne_none_none (fin_bl I q (by simp))
    | bl j => cases ry; exact PySem.EqNone.ne_none_bool (fin_bl I q (by simp))
    | int j => obtain ⟨t', rfl⟩ := ry; exact PySem.EqNone.ne_none_int (fin_bl I q (by simp))
    | str j => obtain ⟨t', rfl⟩ := ry; exact PySem.EqNone.ne_none_str (fin_bl I q (by simp))
    | _ => exact absurd (show false = true from hs) Bool.false_ne_true
  | bl i =>
    cases rx
    cases y with
    | non => cases ry; exact PySem.EqNone.ne_bool_none (fin_bl I q (by simp))
    | bl j => cases ry; exact ne_bool (fin_bl I q (congrArg not dec_bl))
    | str j => obtain ⟨t', rfl⟩ := ry; exact PySem.EqMixed.ne_bool_str (fin_bl I q (by simp))
    | _ => exact absurd (show false = true from hs) Bool.false_ne_true
  | int i =>
    obtain ⟨t, rfl⟩ := rx
    cases y with
    | non => cases ry; exact PySem.EqNone.ne_int_none (fin_bl I q (by simp))
    | int j => obtain ⟨t', rfl⟩ := ry; exact ne_int (fin_bl I q (congrArg not dec_int))
    | str j => obtain ⟨t', rfl⟩ := ry; exact PySem.EqMixed.ne_int_str (fin_bl I q (by simp))
    | _ => exact absurd (show false = true from hs) Bool.false_ne_true
  | str i =>
    obtain ⟨t, rfl⟩ := rx
    cases y with
    | non => cases ry; exact PySem.EqNone.ne_str_none (fin_bl I q (by simp))
    | bl j => cases ry; exact PySem.EqMixed.ne_str_bool (fin_bl I q (by simp))
    | int j => obtain ⟨t', rfl⟩ := ry; exact PySem.EqMixed.ne_str_int (fin_bl I q (by simp))
    | str j => obtain ⟨t', rfl⟩ := ry; exact ne_str (fin_bl I q (congrArg not dec_str))
    | _ => exact absurd (show false = true from hs) Bool.false_ne_true
  | byt i =>
    obtain ⟨t, rfl⟩ := rx
    cases y with
    | byt j => obtain ⟨t', rfl⟩ := ry; exact PySem.W.ne_bytes (fin_bl I q (congrArg not dec_byt))
    | _ => exact absurd (show false = true from hs) Bool.false_ne_true
  | _ => cases y <;> exact absurd (show false = true from hs) Bool.false_ne_true
theorem op_le : OpR X (compareOp .LtE) (rI0 fun i j => .bl (decide (i ≤ j))) := opB0 fun _ _ _ _ _ _ _ q => le_int q
theorem op_gt : OpR X (compareOp .Gt) (rI0 fun i j => .bl (decide (j < i))) := opB0 fun _ _ _ _ _ _ _ q => gt_int q
theorem op_isN : OpR X (compareOp .Is) (fun x y H Q => y = .non ∧ Q (.bl (decide (x = .non))) H) := by
  intro pins s σ H x y v u Q I rx ry h
  obtain ⟨rfl, q⟩ := h
  cases ry
  refine is_none_gen (fin_bl I q ?_)
  cases x <;> first
    | (cases rx; rfl)
    | (obtain ⟨t, rfl⟩ := rx; rfl)
theorem nomark (b : Expr) {op : CmpOp} (h : op ≠ .In := by decide) (h2 : op ≠ .NotIn := by decide) : behindInMarks op b = false := by
  have e1 : (op == CmpOp.In) = false := by cases op <;> first | rfl | exact absurd rfl h
  have e2 : (op == CmpOp.NotIn) = false := by cases op <;> first | rfl | exact absurd rfl h2
  cases b <;> simp [behindInMarks, e1, e2]
theorem pe_cmpR {op : CmpOp} {r : R2} (ho : OpR X (compareOp op) r) (ha : PE X a ta) (hb : PE X b tb) (hm : behindInMarks op b = false) : PE X (.Compare a [op] [b] pos) (tOp r ta tb) := by
  intro pins s σ H Q I h
  exact wpAny_Compare1 (binT ha hb I h fun v u s2 x y H2 I2 rx ry q => ho pins s2 σ H2 x y v u Q I2 rx ry q) hm
def tTest (t : TE) : TT := fun σ H Q => t σ H fun x H' => ∃ k, x = .bl k ∧ Q k H'
theorem pt_cmpR {op : CmpOp} {r : R2} (ho : OpR X (compareOp op) r) (ha : PE X a ta) (hb : PE X b tb) (hm : behindInMarks op b = false) : PT X (.Compare a [op] [b] pos) (tTest (tOp r ta tb)) := by
  intro pins s σ H Q I h
  refine wpAny_isTrue_Compare1 (thn (ha pins s σ H _ I h) fun v s1 ⟨x, H1, I1, r1, q1⟩ => thn (hb pins s1 σ H1 _ I1 q1) fun u s2 ⟨y, H2, I2, r2, q2⟩ =>
    thn (ho pins s2 σ H2 x y v u _ I2 r1 r2 q2) fun c s3 ⟨z, H3, I3, r3, k, e, q3⟩ => ?_) hm
  subst e
  cases r3
  exact wpAny_truthy_bool ⟨H3, I3, q3⟩
def tChain (r r' : R2) (ta tb tc : TE) : TE := fun σ H Q => ta σ H fun x H1 => tb σ H1 fun y H2 => r x y H2 fun z H3 => ∃ k, z = .bl k ∧
  (if k = true then tc σ H3 fun w' H4 => r' y w' H4 Q else Q (.bl false) H3)
theorem pe_chain {op op' : CmpOp} {r r' : R2} (ho : OpR X (compareOp op) r) (ho' : OpR X (compareOp op') r') (ha : PE X a ta) (hb : PE X b tb) (hc : PE X c tc)
    (hm : lastMarks [op, op'] [b, c] = false := by with_unfolding_all rfl) : PE X (.Compare a [op, op'] [b, c] pos) (tChain r r' ta tb tc) := by
  intro pins s σ H Q I h
  refine Compare_chain (thn (ha pins s σ H _ I h) fun v s1 ⟨x, H1, I1, r1, q1⟩ => chain_link (thn (hb pins s1 σ H1 _ I1 q1) fun u s2 ⟨y, H2, I2, r2, q2⟩ =>
    thn (ho pins s2 σ H2 x y v u _ I2 r1 r2 q2) fun d s3 ⟨z, H3, I3, r3, k, e, q3⟩ => ?_)) hm
  subst e
  cases r3
  refine wpAny_truthy_bool ?_
  cases k with
  | false => exact ite_ff ⟨.bl false, H3, I3, rfl, q3⟩
  | true => exact ite_tt (chain_last (thn (hc pins s3 σ H3 _ I3 q3) fun w' s4 ⟨z', H4, I4, r4, q4⟩ => ho' pins s4 σ H4 y z' u w' Q I4 r2 r4 q4))
theorem pt_chain {op op' : CmpOp} {r r' : R2} (ho : OpR X (compareOp op) r) (ho' : OpR X (compareOp op') r') (ha : PE X a ta) (hb : PE X b tb) (hc : PE X c tc)
    (hm : lastMarks [op, op'] [b, c] = false := by with_unfolding_all rfl) : PT X (.Compare a [op, op'] [b, c] pos) (tTest (tChain r r' ta tb tc)) := by
  intro pins s σ H Q I h
  refine isTrue_chain (thn (ha pins s σ H _ I h) fun v s1 ⟨x, H1, I1, r1, q1⟩ => test_link (thn (hb pins s1 σ H1 _ I1 q1) fun u s2 ⟨y, H2, I2, r2, q2⟩ =>
    thn (ho pins s2 σ H2 x y v u _ I2 r1 r2 q2) fun d s3 ⟨z, H3, I3, r3, k, e, q3⟩ => ?_)) hm
  subst e
  cases r3
  refine wpAny_truthy_bool ?_
  cases k with
  | false =>
    obtain ⟨k', e', q'⟩ := q3
    cases e'
    exact ite_ff ⟨H3, I3, q'⟩
  | true =>
    refine ite_tt (test_last (thn (hc pins s3 σ H3 _ I3 q3) fun w' s4 ⟨z', H4, I4, r4, q4⟩ => thn (ho' pins s4 σ H4 y z' u w' _ I4 r2 r4 q4) fun d' s5 ⟨z2, H5, I5, r5, k2, e2, q5⟩ => ?_))
    subst e2
    cases r5
    exact wpAny_truthy_bool ⟨H5, I5, q5⟩
theorem line63 : (sizeLine : Nat) < 2 ^ 63 := by rw [sizeLine_eq]; decide
theorem vals1 {x : V} {us : List Value} (r : Vals [x] us) : ∃ u, us = [u] ∧ RelV x u := by
  cases r with
  | cons r1 r2 => cases r2; exact ⟨_, rfl, r1⟩
end
end L2
namespace L2
open PySem PySem.Spec PyProof.Rows
structure ObjM (h : Heap) (x dx C : Addr) (mA : Str → Option Value) : Prop where
  obj : h.get? x = some (PySem.W.instObj C dx)
  ns : h.Ns1 dx mA
  ne : dx ≠ x
theorem lookIn_ns {h : Heap} {dx : Addr} {mA : Str → Option Value} (n : h.Ns1 dx mA) : ∃ od, h.get? dx = some od ∧ ∀ name, PySem.W.lookIn name od = some (mA name) := by
  obtain ⟨o, es, ep, ho, hd, hk, _, hm⟩ := n
  refine ⟨o, ho, fun name => ?_⟩
  have e := hm name
  unfold nsFind findBy at e
  rw [← Array.find?_toList] at e
  unfold PySem.W.lookIn
  rw [hd]
  dsimp only
  split
  · rename_i y q
    rw [q] at e
    exact congrArg some e
  · rename_i q
    rw [q] at e
    have a : es.toList.any (·.refKey) = false := by
      rw [List.any_eq_false]
      intro y hy
      obtain ⟨z, t, hkey⟩ := hk y (Array.mem_toList_iff.mp hy)
      simp [DictEntry.refKey, hkey]
    have a' : ¬ es.toList.any (·.refKey) = true := by rw [a]; exact Bool.false_ne_true
    rw [if_neg a']
    exact congrArg some e
theorem ObjM.look {h : Heap} {x dx C : Addr} {mA : Str → Option Value} (I : ObjM h x dx C mA) : ∃ od, PySem.W.InstAt h x (PySem.W.instObj C dx) C (some od) ∧ ∀ name, PySem.W.lookIn name od = some (mA name) :=
  let ⟨od, ho, hl⟩ := lookIn_ns I.ns
  ⟨od, ⟨I.obj, rfl, rfl, ho⟩, hl⟩
section
variable {prog : Program} {w : World} {A : Around} {E : Value → Shared → Prop} {s : Shared} {K : PySem.W.Frag} {x dx C f : Addr} {mA : Str → Option Value} {name : Str} {v : Value}
theorem get_map {expr : Bool} {Q : Value → Shared → Prop} (X : K.In s.heap) (I : ObjM s.heap x dx C mA) (hg : PySem.W.plainGet K C name = true) (hh : PySem.W.hasDictIn K C = true)
    (ha : PySem.W.findIn K (.ref C) name = some none) (hv : mA name = some v) (hv' : PySem.W.handedIn v = true) (h : Q v { s with toks := s.toks + 1 }) :
    wpAny (model prog w) A (getAttr (.ref x) name expr) Q E s := by
  obtain ⟨od, J, hl⟩ := I.look
  exact PySem.W.get_value X J (PySem.W.plainGet_of hg).1 (PySem.W.findObj_own hh ha rfl (by rw [hl, hv])) hv' h
theorem get_meth {pl : Sem Bool} {Q : Value × List Value → Shared → Prop} (X : K.In s.heap) (I : ObjM s.heap x dx C mA) (hg : PySem.W.plainGet K C name = true)
    (hf : PySem.W.findIn K (.ref C) name = some (some (.ref f))) (ht : PySem.W.isFn K (.ref f) = true) (hv : mA name = none) (h : Q (.ref f, [.ref x]) s) :
    wpAny (model prog w) A (getMethod (.ref x) name pl) Q E s := by
  obtain ⟨od, J, hl⟩ := I.look
  exact PySem.W.method_fn X J (PySem.W.plainGet_of hg).1 (PySem.W.plainGet_of hg).2 hf (beq_iff_eq.mp ht) (by show (PySem.W.lookIn name od).map (·.isSome) = some false; rw [hl, hv]; rfl) h
theorem set_map {ns : List Str} {Q : Unit → Shared → Prop} (X : K.In s.heap) (I : ObjM s.heap x dx C mA)
    (hs : PySem.W.findIn K (.ref C) "__setattr__" = some (some (.builtin "object.__setattr__"))) (hp : PySem.W.plainOver K C = true) (ht : PySem.W.takerIn K C name = some none) (hh : PySem.W.hasDictIn K C = true)
    (hw : PySem.Within mA ns) (hsz : ns.length ≤ sizeLine)
    (h : ∀ h', ObjM h' x dx C (fun y => if y = name then some v else mA y) → Heap.SameBut dx s.heap h' → Q () { s with heap := h', toks := s.toks + 2 }) :
    wpAny (model prog w) A (setAttr (.ref x) name v) Q E s := by
  obtain ⟨od, J, hl⟩ := I.look
  refine PySem.W.set_plain X J hs (PySem.W.osa_open (s := { s with toks := s.toks + 1 }) (r := none) X J hp ht fun b => ?_)
  obtain ⟨cd, hc, hd'⟩ := PySem.W.any_some hh
  have hx : s.heap.get? x = some ⟨.ref C, some dx, .plain, #[]⟩ := I.obj
  refine wpAny_bind (wpAny_pure (wpAny_bind (wpAny_bind (wpAny_loadPart hx (wpAny_bind (PySem.W.Looks.here (s := { s with toks := s.toks + 1 }) (PySem.W.looks_clsIn X hc) ?_))))))
  rw [hd']
  refine wpAny_pure (a := some dx) (wpAny_bind (wpAny_pure (wpAny_bind ?_)))
  refine wpAny_nsSet1 (s := { s with toks := s.toks + 1 }) I.ns fun h' hn2 hs2 => ?_
  obtain ⟨oD, esD, epD, hoD, hdD, hcD⟩ := hn2.count (PySem.Within.cons name v hw)
  refine wpAny_bind (wpAny_lookBehind hoD (by rw [hdD]; exact pastItsLine_dict (Nat.le_trans hcD (by rw [List.length_cons]; omega))) ?_)
  exact wpAny_pure (h _ ⟨(hs2.2 _ (Ne.symm I.ne)).trans I.obj, hn2, I.ne⟩ hs2)
theorem make_map {R : Result → Shared → Prop} {vs : List Value} {kw : List (Str × Value)} (X : K.In s.heap) (hm : PySem.W.makesIn K C = true)
    (hi : PySem.W.findIn K (.ref C) "__init__" = some (some (.ref f))) (hf : PySem.W.typeIn K (.ref f) = some (.type "function"))
    (h : codeAny (model prog w) (A.under (.builtin "type.__call__" ⟨.ref C :: vs, kw⟩)) (.call (.ref f) ⟨.ref (s.heap.objs.size + 1) :: vs, kw⟩) (PySem.W.InitBack (s.heap.objs.size + 1) R)
      { s with heap := (s.heap.push PySem.W.emptyDict).push (PySem.W.instObj C s.heap.objs.size) }) :
    codeAny (model prog w) A (.call (.ref C) ⟨vs, kw⟩) R s := by
  obtain ⟨hh, g, d, t, os⟩ := s
  exact PySem.W.make_core (PySem.W.makes_of X hm) (PySem.W.looks_findIn X hi) (fun self => PySem.W.bind_fn X self hf) (.inl rfl) h
end
def putF (f : Str) (v : V) : List (Str × V) → List (Str × V)
  | [] => [(f, v)]
  | (g, x) :: r => if g = f then (g, v) :: r else (g, x) :: putF f v r
theorem lookup_putF (f g : Str) (v : V) : ∀ fs : List (Str × V), (putF f v fs).lookup g = if g = f then some v else fs.lookup g
  | [] => by
    show List.lookup g [(f, v)] = _
    by_cases h : g = f
    · have hb : (g == f) = true := beq_iff_eq.mpr h
      simp only [List.lookup, hb, if_pos h]
    · have hb : (g == f) = false := beq_eq_false_iff_ne.mpr h
      simp only [List.lookup, hb, if_neg h]
  | (k, x) :: r => by
    have ih := lookup_putF f g v r
    rw [show putF f v ((k, x) :: r) = (if k = f then (k, v) :: r else (k, x) :: putF f v r) from rfl]
    by_cases hk : k = f
    · rw [if_pos hk]
      by_cases h : g = k
      · have hb : (g == k) = true := beq_iff_eq.mpr h
        simp only [List.lookup, hb, if_pos (h.trans hk)]
      · have hb : (g == k) = false := beq_eq_false_iff_ne.mpr h
        simp only [List.lookup, hb, if_neg (fun e : g = f => h (e.trans hk.symm))]
    · rw [if_neg hk]
      by_cases h : g = k
      · have hb : (g == k) = true := beq_iff_eq.mpr h
        simp only [List.lookup, hb, if_neg (fun e : g = f => hk (h.symm.trans e))]
      · have hb : (g == k) = false := beq_eq_false_iff_ne.mpr h
        simp only [List.lookup, hb]
        exact ih
theorem keys_putF (f : Str) (v : V) : ∀ fs : List (Str × V), f ∈ (putF f v fs).map (·.1) ∧ ∀ g, g ∈ fs.map (·.1) → g ∈ (putF f v fs).map (·.1)
  | [] => ⟨by simp [putF], fun g h => by simp at h⟩
  | (k, x) :: r => by
    obtain ⟨i1, i2⟩ := keys_putF f v r
    rw [show putF f v ((k, x) :: r) = (if k = f then (k, v) :: r else (k, x) :: putF f v r) from rfl]
    by_cases hk : k = f
    · rw [if_pos hk]
      subst hk
      exact ⟨by simp, fun g h => by simpa using h⟩
    · rw [if_neg hk]
      refine ⟨?_, fun g h => ?_⟩
      · rw [List.map_cons]
        exact List.mem_cons_of_mem _ i1
      · rw [List.map_cons] at h ⊢
        rcases List.mem_cons.mp h with e | e
        · exact List.mem_cons.mpr (.inl e)
        · exact List.mem_cons_of_mem _ (i2 g e)
theorem length_putF (f : Str) (v : V) : ∀ fs : List (Str × V), (putF f v fs).length ≤ fs.length + 1
  | [] => by simp [putF]
  | (k, x) :: r => by
    have ih := length_putF f v r
    rw [show putF f v ((k, x) :: r) = (if k = f then (k, v) :: r else (k, x) :: putF f v r) from rfl]
    by_cases hk : k = f
    · rw [if_pos hk, List.length_cons, List.length_cons]; omega
    · rw [if_neg hk, List.length_cons, List.length_cons]; omega
theorem RelO.some_of {v : V} {o : Option Value} (r : RelO (some v) o) : ∃ u, o = some u ∧ RelV v u := by
  cases o with
  | none => exact (show False from r).elim
  | some u => exact ⟨u, rfl, r⟩
theorem RelO.none_of {o : Option Value} (r : RelO none o) : o = none := by
  cases o with
  | none => rfl
  | some u => exact (show False from r).elim
theorem handed_of {v : V} {u : Value} (r : RelV v u) : PySem.W.handedIn u = true := by
  cases v with
  | non => cases (show u = Value.none from r); rfl
  | bl b => cases (show u = Value.bool b from r); rfl
  | int i => obtain ⟨t, e⟩ := (show ∃ t, u = Value.int i t from r); cases e; rfl
  | str x => obtain ⟨t, e⟩ := (show ∃ t, u = Value.str x t from r); cases e; rfl
  | byt b => obtain ⟨t, e⟩ := (show ∃ t, u = Value.bytes b t from r); cases e; rfl
  | flt b => obtain ⟨t, e⟩ := (show ∃ t, u = Value.float b t from r); cases e; rfl
  | ref a => cases (show u = Value.ref a from r); rfl
  | ty n => cases (show u = Value.type n from r); rfl
section
variable {P : Program} {w : World} {H H' : Hp} {h h' : Heap} {a C dx : Addr} {fs fs' : List (Str × V)}
theorem ins_get (hok : HOk P w H h) (e : H a = some (.ins C dx fs)) : ∃ mA, ObjM h a dx C mA ∧ (∀ f, RelO (fs.lookup f) (mA f)) ∧ PySem.Within mA (fs.map (·.1)) ∧ fs.length ≤ 1000 ∧ H dx = some (.own a) := by
  obtain ⟨d, z, ne, ob, mA, n, r, q⟩ := (show ObjOk P w H h a (.ins C dx fs) from hok a _ e)
  exact ⟨mA, ⟨ob, n, ne⟩, r, q, z, d⟩
end
structure Cls (K : PySem.W.Frag) (C : Addr) : Prop where
  pg : PySem.W.plainGet K C Str.empty = true
  hd : PySem.W.hasDictIn K C = true
  po : PySem.W.plainOver K C = true
  sa : PySem.W.findIn K (.ref C) "__setattr__" = some (some (.builtin "object.__setattr__"))
theorem Cls.get {K : PySem.W.Frag} {C : Addr} (c : Cls K C) (f : Str) : PySem.W.plainGet K C f = true := c.pg
def NoAttr (K : PySem.W.Frag) (C : Addr) (f : Str) : Prop := PySem.W.findIn K (.ref C) f = some none
theorem NoAttr.taker {K : PySem.W.Frag} {C : Addr} {f : Str} (n : NoAttr K C f) : PySem.W.takerIn K C f = some none := by
  unfold PySem.W.takerIn
  rw [show PySem.W.findIn K (.ref C) f = some none from n]
  rfl
structure Meth (K : PySem.W.Frag) (C : Addr) (m : Str) (f : Addr) : Prop where
  at_ : PySem.W.findIn K (.ref C) m = some (some (.ref f))
  fn : PySem.W.isFn K (.ref f) = true
  kp : PySem.W.keepIn K (.ref f) = true
section
variable {X : Cx} {pins : List (Addr × Obj)} {σ : St} {H : Hp} {s : Shared} {a C dx : Addr} {fs : List (Str × V)} {f : Str} {v : V} {A : Around} {E : Value → Shared → Prop}
theorem getattr_ok {b : Bool} {Q : Value → Shared → Prop} (I : Inv X pins σ H s) (e : H a = some (.ins C dx fs)) (c : Cls X.K C) (n : NoAttr X.K C f) (l : fs.lookup f = some v)
    (h : ∀ u s', Inv X pins σ H s' → RelV v u → Q u s') : wpAny (model X.prog X.w) A (getAttr (.ref a) f b) Q E s := by
  obtain ⟨mA, O, r, _, _, _⟩ := ins_get I.hok e
  obtain ⟨u, hu, ru⟩ := RelO.some_of (v := v) (o := mA f) (by rw [← l]; exact r f)
  exact get_map I.kIn O (c.get f) c.hd n hu (handed_of ru) (h u _ (I.tok _) ru)
theorem getmeth_ok {m : Str} {g : Addr} {pl : Sem Bool} {Q : Value × List Value → Shared → Prop} (I : Inv X pins σ H s) (e : H a = some (.ins C dx fs)) (c : Cls X.K C) (k : Meth X.K C m g) (l : fs.lookup m = none)
    (h : Q (.ref g, [.ref a]) s) : wpAny (model X.prog X.w) A (getMethod (.ref a) m pl) Q E s := by
  obtain ⟨mA, O, r, _, _, _⟩ := ins_get I.hok e
  have hn : mA m = none := RelO.none_of (by rw [← l]; exact r m)
  exact get_meth I.kIn O (c.get m) k.at_ k.fn hn h
theorem setattr_ok {y : V} {u : Value} {Q : Unit → Shared → Prop} (I : Inv X pins σ H s) (e : H a = some (.ins C dx fs)) (c : Cls X.K C) (n : NoAttr X.K C f) (hl : fs.length < 1000) (ry : RelV y u)
    (h : ∀ s', Inv X pins σ (upd H a (.ins C dx (putF f y fs))) s' → Q () s') : wpAny (model X.prog X.w) A (setAttr (.ref a) f u) Q E s := by
  obtain ⟨mA, O, r, wi, _, ho⟩ := ins_get I.hok e
  have hz : (fs.map (·.1)).length ≤ sizeLine := by rw [List.length_map, sizeLine_eq]; omega
  refine set_map I.kIn O c.sa c.po n.taker c.hd wi hz fun h' O' sb => h _ ?_
  have hd : ∃ o, h'.get? dx = some o := let ⟨o, _, _, e', _⟩ := O'.ns; ⟨o, e'⟩
  refine I.write (x := a) (e := dx) (by rw [e]; exact True.intro) (.inr ho) (fun b q hb z => (sb.2 b hb).trans z) hd ?_
  refine ⟨by rw [upd_ne O.ne]; exact ho, ?_, O.ne, O'.obj, _, O'.ns, fun g => ?_, fun g hg => ?_⟩
  · have := length_putF f y fs; omega
  · show RelO ((putF f y fs).lookup g) (if g = f then some u else mA g)
    rw [lookup_putF]
    by_cases q : g = f
    · rw [if_pos q, if_pos q]; exact ry
    · rw [if_neg q, if_neg q]; exact r g
  · by_cases q : g = f
    · rw [q]; exact (keys_putF f y fs).1
    · refine (keys_putF f y fs).2 g (wi g fun z => hg ?_)
      show (if g = f then some u else mA g) = none
      rw [if_neg q]; exact z
theorem Inv.made (I : Inv X pins σ H s) : Inv X pins σ (upd (upd H s.heap.objs.size (.own (s.heap.objs.size + 1))) (s.heap.objs.size + 1) (.ins C s.heap.objs.size []))
    { s with heap := (s.heap.push PySem.W.emptyDict).push (PySem.W.instObj C s.heap.objs.size) } := by
  have e1 : (s.heap.push PySem.W.emptyDict).get? s.heap.objs.size = some PySem.W.emptyDict := Heap.get?_push_size s.heap rfl
  have e2 : ((s.heap.push PySem.W.emptyDict).push (PySem.W.instObj C s.heap.objs.size)).get? (s.heap.objs.size + 1) = some (PySem.W.instObj C s.heap.objs.size) := by
    have := Heap.get?_push_size (s.heap.push PySem.W.emptyDict) (o := PySem.W.instObj C s.heap.objs.size) rfl
    rwa [Heap.size_push] at this
  have e3 : (s.heap.push PySem.W.emptyDict).Ns s.heap.objs.size (fun _ => none) := ⟨PySem.W.emptyDict, #[], _, e1, rfl, (fun e he => absurd he (by simp)), fun _ => rfl⟩
  have I1 := I.laid (a := s.heap.objs.size) (o := .own (s.heap.objs.size + 1)) (h' := s.heap.push PySem.W.emptyDict) (t' := s.toks) (fun b u q => Heap.get?_push_of_some _ q) (Nat.le_refl _) ⟨_, e1⟩
  refine I1.laid (a := s.heap.objs.size + 1) (o := .ins C s.heap.objs.size []) (t' := s.toks) (fun b u q => Heap.get?_push_of_some _ q) (Nat.le_of_eq (Heap.size_push _ _)) ?_
  have ne : s.heap.objs.size ≠ s.heap.objs.size + 1 := Nat.ne_of_lt (Nat.lt_succ_self _)
  refine ⟨by rw [upd_ne ne, upd_same], Nat.zero_le _, ne, e2, fun _ => none, (Heap.Ns1.of_empty e3).at fun o q => Heap.get?_push_of_some _ q, fun _ => True.intro, fun y hy => absurd rfl hy⟩
theorem attr_of {prog : Program} {w : World} {env : Env} {e : Expr} {f : Str} {pos : Pos} {s : Shared} {Q : Value → Shared → Prop} (hb : attributeBase e f env (eval e env) = eval e env)
    (h : wpAny (model prog w) A (eval e env) (fun o s₁ => wpAny (model prog w) A (getAttr o f true) Q E s₁) E s) : wpAny (model prog w) A (eval (.Attribute e f pos) env) Q E s :=
  Attribute_any_ h (by rw [arm_eval_Attribute, hb])
end
def tFld (K : PySem.W.Frag) (ta : TE) (f : Str) : TE := fun σ H Q => ta σ H fun x H1 => ∃ a C dx fs v, x = .ref a ∧ H1 a = some (.ins C dx fs) ∧ Cls K C ∧ NoAttr K C f ∧ fs.lookup f = some v ∧ Q v H1
def sFld (K : PySem.W.Frag) (ta tv : TE) (f : Str) : TS := fun D σ H => tv σ H fun y H1 => ta σ H1 fun x H2 => ∃ a C dx fs, x = .ref a ∧ H2 a = some (.ins C dx fs) ∧ Cls K C ∧ NoAttr K C f ∧ fs.length < 1000 ∧
  D.nx σ (upd H2 a (.ins C dx (putF f y fs)))
section
variable {X : Cx} {o e value : Expr} {f : Str} {pos pos' tpos : Pos} {ta tv : TE}
theorem pe_fld (he : PE X e ta) (hb : attributeBase e f X.env (eval e X.env) = eval e X.env) : PE X (.Attribute e f pos) (tFld X.K ta f) := by
  intro pins s σ H Q I h
  refine attr_of hb (thn (he pins s σ H _ I h) fun u s1 ⟨x, H1, I1, rx, a, C, dx, fs, v, ex, ea, c, n, l, q⟩ => ?_)
  subst ex
  obtain rfl : u = Value.ref a := rx
  exact getattr_ok I1 ea c n l fun u' s2 I2 ru => ⟨v, H1, I2, ru, q⟩
theorem ps_fld (ha : PE X o ta) (hv : PE X value tv) (hs : swapsWith value (some (.Attribute o f pos')) pos.line X.env = pure false) : PS X (.Assign [.Attribute o f pos'] value pos) (sFld X.K ta tv f) := by
  intro pins s σ H D I h
  refine plainObj_wpAny_Assign_Attribute (thn (hv pins s σ H _ I h) fun u s1 ⟨y, H1, I1, ry, q⟩ => thn (ha pins s1 σ H1 _ I1 q) fun ov s2 ⟨x, H2, I2, rx, a, C, dx, fs, ex, ea, c, n, l, q2⟩ => ?_) hs
  subst ex
  obtain rfl : ov = Value.ref a := rx
  exact setattr_ok I2 ea c n l ry fun s3 I3 => ⟨σ, _, I3, q2⟩
end
section
variable {X : Cx} {pins : List (Addr × Obj)} {σ : St} {H : Hp} {s : Shared} {A : Around} {E : Value → Shared → Prop} {Q : Value → Shared → Prop} {c : Value} {b : Bool}
end
end L2
namespace L2
open PySem PySem.Spec PyProof.Rows
structure Room (k : Nat) (A : Around) : Prop where
  hd : A.handled = none
  dp : A.depth + 3 * k + 5 < recursionLimit
  un : A.units + 16 * k + 200 < cLine
theorem Room.mono {j k : Nat} {A : Around} (r : Room k A) (h : j ≤ k) : Room j A := ⟨r.hd, by have := r.dp; omega, by have := r.un; omega⟩
theorem Room.deeper {k : Nat} {A : Around} (r : Room (k + 1) A) (env : Env) : Room k (A.deeper env) :=
  ⟨r.hd, by have := r.dp; show A.depth + 1 + 3 * k + 5 < _; omega, by have := r.un; show A.units + 3 + 16 * k + 200 < _; omega⟩
theorem make_depth {A : Around} {C : Addr} {us : List Value} {kw : List (Str × Value)} : (A.under (.builtin "type.__call__" ⟨.ref C :: us, kw⟩)).depth = A.depth + 1 := by
  first | rfl | simp [Around.under, Code.weight, Code.isCreation, Code.isGuard, Code.isCaller, Code.frames, Code.isFrame, guardIds]
theorem make_units {A : Around} {C : Addr} {us : List Value} {kw : List (Str × Value)} : (A.under (.builtin "type.__call__" ⟨.ref C :: us, kw⟩)).units = A.units + 1 := by
  first | rfl | simp [Around.under, Code.cUnits, Code.frames, Code.isFrame]
theorem Room.make {k : Nat} {A : Around} (r : Room (k + 1) A) (C : Addr) (us : List Value) (kw : List (Str × Value)) : Room k (A.under (.builtin "type.__call__" ⟨.ref C :: us, kw⟩)) :=
  ⟨r.hd, by have := r.dp; rw [make_depth]; omega, by have := r.un; rw [make_units]; omega⟩
theorem Room.depth {k : Nat} {A : Around} (r : Room k A) : A.depth < recursionLimit := by have := r.dp; omega
theorem Room.units {k : Nat} {A : Around} (r : Room k A) : A.units + 64 < cLine := by have := r.un; omega
def tNil : TA := fun _ H Q => Q [] H
def tCons (ta : TE) (tr : TA) : TA := fun σ H Q => ta σ H fun x H1 => tr σ H1 fun xs H2 => Q (x :: xs) H2
section
variable {X : Cx} {e : Expr} {es : List Expr} {te : TE} {t : TA} {pos : Pos}
theorem pa_nil : PA X [] tNil := fun _ _ _ _ H Q I h => Calls.spliced_nil ⟨[], H, I, .nil, h⟩
theorem pa_cons (ha : PE X e te) (hr : PA X es t) (hs : starEach (e :: es) X.env = (false, eval e X.env) :: starEach es X.env := by rfl) : PA X (e :: es) (tCons te t) := by
  intro pos pins s σ H Q I h
  rw [hs]
  show wpAny _ _ (spliced ((false, eval e X.env) :: backTo pos (starEach es X.env))) _ _ s
  refine Calls.spliced_cons (thn (ha pins s σ H _ I h) fun u s1 ⟨x, H1, I1, r1, q1⟩ => ?_)
  exact thn (hr pos pins s1 σ H1 _ I1 q1) fun us s2 ⟨xs, H2, I2, r2, q2⟩ => ⟨x :: xs, H2, I2, .cons r1 r2, q2⟩
def tLst (t : TA) : TE := fun σ H Q => t σ H fun xs H1 => xs.length ≤ sizeLine ∧ ∀ p, H1 p = none → Q (.ref p) (upd H1 p (.lst xs))
theorem pe_lst (h : PA X es t) : PE X (.List es pos) (tLst t) := by
  intro pins s σ H Q I hq
  refine wpAny_List_spliced (thn (h pos pins s σ H _ I hq) fun us s1 ⟨xs, H1, I1, r, z, q⟩ => ⟨by rw [← r.length]; exact z, ?_⟩)
  have hf : H1 s1.heap.objs.size = none := I1.hok.fresh (Nat.le_refl _)
  refine ⟨.ref s1.heap.objs.size, upd H1 s1.heap.objs.size (.lst xs), I1.laid (t' := s1.toks) (fun b u e => Heap.get?_push_of_some _ e) (Nat.le_refl _) ?_, rfl, q _ hf⟩
  exact ⟨z, us, 0, r, Heap.get?_push_size _ rfl⟩
end
abbrev Sp := List V → Hp → VK → XK → Prop
abbrev CXT := List Env → Hp → Shared → XK → Value → Shared → Prop
structure Env0 (P : Program) (w : World) (K : PySem.W.Frag) (mg : Str → Option Value) (base : Heap) (A : Around) (outer : List Env) (s : Shared) (H : Hp) : Prop where
  frames : A.frames = some outer
  mod : Mod K mg base
  bs : ∀ b o, base.get? b = some o → s.heap.get? b = some o ∧ H b = none
  bsz : base.objs.size ≤ s.heap.objs.size
  funs : s.heap.FunFrames base outer
  frf : ∀ b ∈ frs outer, H b = none
  hok : HOk P w H s.heap
  bare : AllBare s.gens
def CE (outer : List Env) (P : Program) (w : World) (H : Hp) (s : Shared) (Q : VK) (u : Value) (s' : Shared) : Prop :=
  ∃ v H', s'.os = s.os ∧ AllBare s'.gens ∧ Un (frs outer) [] H H' s.heap s'.heap ∧ HOk P w H' s'.heap ∧ RelV v u ∧ Q v H'
def CR (CX : CXT) (outer : List Env) (P : Program) (w : World) (H : Hp) (s : Shared) (Q : VK) (E : XK) (r : Result) (s' : Shared) : Prop :=
  match r with
  | .ok (.ret u) => CE outer P w H s Q u s'
  | .ok _ => False
  | .error e => CX outer H s E e s'
structure FnOk (P : Program) (w : World) (K : PySem.W.Frag) (mg : Str → Option Value) (base : Heap) (CX : CXT) (k : Nat) (f : Addr) (fd : FuncData) (ps : List Str) (sp : Sp) : Prop where
  len : ∀ vs H Q E, sp vs H Q E → vs.length = ps.length
  run : ∀ (A : Around) (outer : List Env) (s : Shared) (H : Hp) (args : Args) (us : List Value) (vs : List V) (Q : VK) (E : XK), Room k A → Env0 P w K mg base A outer s H → BindsTo s fd args (ps.zip us) → Vals vs us → sp vs H Q E →
    codeAny (model P w) A (.call (.ref f) args) (CR CX outer P w H s Q E) s
theorem Env0.make {P : Program} {w : World} {K : PySem.W.Frag} {mg : Str → Option Value} {base : Heap} {A : Around} {outer : List Env} {s : Shared} {H : Hp} (e : Env0 P w K mg base A outer s H) (C : Addr) (us : List Value) (kw : List (Str × Value)) :
    Env0 P w K mg base (A.under (.builtin "type.__call__" ⟨.ref C :: us, kw⟩)) outer s H := ⟨by first | exact e.frames | (simpa [Around.under, Code.envs, Code.isFrame, pushEnvs] using e.frames), e.mod, e.bs, e.bsz, e.funs, e.frf, e.hok, e.bare⟩
section
variable {X : Cx} {pins : List (Addr × Obj)} {σ : St} {H : Hp} {s s' : Shared}
theorem Inv.env0 (I : Inv X pins σ H s) : Env0 X.prog X.w X.K X.mg X.base X.A X.stack s H :=
  ⟨I.ok.frames, I.ok.mod, I.bs, Nat.le_trans I.ok.bsz I.sz, I.stack, I.stkFree, I.hok, I.bare⟩
theorem Inv.after {Q : VK} {u : Value} (I : Inv X pins σ H s) (h : CE X.stack X.prog X.w H s Q u s') : EP X pins σ Q u s' := by
  obtain ⟨v, H', os, bare, un, hok, r, q⟩ := h
  obtain ⟨hh, g, d, t, os'⟩ := s'
  obtain rfl : os' = s.os := os
  exact ⟨v, H', I.call (h' := hh) (g' := g) (d' := d) (t' := t) (ch := []) un hok bare (fun b z => absurd z (by simp)), r, q⟩
end
def tCall (sp : Sp) (dvs : List V) (E : XK) (t : TA) : TE := fun σ H Q => t σ H fun vs H1 => sp (vs ++ dvs) H1 Q E
def tMeth (C : Addr) (m : Str) (sp : Sp) (dvs : List V) (E : XK) (ta : TE) (t : TA) : TE := fun σ H Q => ta σ H fun x H1 => ∃ a dx fs, x = .ref a ∧ H1 a = some (.ins C dx fs) ∧ fs.lookup m = none ∧
  t σ H1 fun vs H2 => sp (x :: (vs ++ dvs)) H2 Q E
def tMake (C : Addr) (sp : Sp) (dvs : List V) (E : XK) (t : TA) : TE := fun σ H Q => t σ H fun vs H1 => ∀ x dx, H1 x = none → H1 dx = none → dx ≠ x →
  sp (.ref x :: (vs ++ dvs)) (upd (upd H1 dx (.own x)) x (.ins C dx [])) (fun v H2 => v = .non ∧ Q (.ref x) H2) E
def Binds (K : PySem.W.Frag) (fd : FuncData) (ps : List Str) (ds : List Value) : Prop :=
  ∀ (s : Shared) (us : List Value), K.In s.heap → (us ++ ds).length = ps.length → BindsTo s fd ⟨us, []⟩ (ps.zip (us ++ ds))
theorem Binds.all {K : PySem.W.Frag} {fd : FuncData} {ps : List Str} (h : ∀ us : List Value, us.length = ps.length → bindArgs fd ⟨us, []⟩ = pure (ps.zip us)) : Binds K fd ps [] := fun s us _ hl => by
  rw [List.append_nil] at hl ⊢
  exact .of_eq (h us hl)
def Passes (CX : CXT) (X : Cx) (E : XK) : Prop := ∀ (pins : List (Addr × Obj)) (σ : St) (H : Hp) (s : Shared) (e : Value) (s' : Shared), Inv X pins σ H s → CX X.stack H s E e s' → X.xe e s'
section
variable {X : Cx} {CX : CXT} {k : Nat} {f C : Addr} {fd : FuncData} {ps : List Str} {sp : Sp} {dvs : List V} {ds : List Value} {E : XK} {x m : Str} {p pos apos : Pos} {e o : Expr} {es : List Expr} {ta : TE} {t : TA}
theorem run_fn {pins : List (Addr × Obj)} {σ : St} {H : Hp} {s : Shared} {Q : VK} {us : List Value} {vs : List V} (F : FnOk X.prog X.w X.K X.mg X.base CX k f fd ps sp) (hr : Room k X.A) (hb : Binds X.K fd ps ds) (hd : Vals dvs ds) (hx : Passes CX X E)
    (I : Inv X pins σ H s) (r : Vals vs us) (h : sp (vs ++ dvs) H Q E) : wpAny (model X.prog X.w) X.A (call (.ref f) us) (EP X pins σ Q) X.xe s := by
  have r2 : Vals (vs ++ dvs) (us ++ ds) := r.append hd
  have hl : (us ++ ds).length = ps.length := by rw [← r2.length]; exact F.len _ _ _ _ h
  refine wpAny_call (codeAny_mono (F.run X.A X.stack s H ⟨us, []⟩ (us ++ ds) (vs ++ dvs) Q E hr I.env0 (hb s us I.kIn hl) r2 h) fun r s' hq => ?_)
  cases r with
  | error e => exact hx pins σ H s e s' I hq
  | ok fl =>
    cases fl with
    | ret u => exact I.after hq
    | next => exact False.elim hq
    | brk => exact False.elim hq
    | cont => exact False.elim hq
theorem pe_call (F : FnOk X.prog X.w X.K X.mg X.base CX k f fd ps sp) (hr : Room k X.A) (hg : Gl X x) (hm : X.mg x = some (.ref f)) (hk : PySem.W.keepIn X.K (.ref f) = true) (hb : Binds X.K fd ps ds) (hd : Vals dvs ds) (hx : Passes CX X E)
    (ha : PA X (e :: es) t) (hdb : (x == ("__debug__" : Str)) = false := by decide) (he : starEach (e :: es) X.env = (false, eval e X.env) :: starEach es X.env := by rfl) (hpl : (backTo pos (starEach es X.env)).any (·.1) = false := by rfl) :
    PE X (.Call (.Name x p) (e :: es) [] pos) (tCall sp dvs E t) := by
  intro pins s σ H Q I h
  refine wpAny_Call_Name_kw (ld_glob I hg hm ?_ hdb)
  refine PySem.W.callWith_K (h₀ := X.base) I.ok.mod.kin hk (thn (ha pos pins s σ H _ I h) fun us s1 ⟨vs, H1, I1, r, q⟩ => ⟨I1.kIn, ?_⟩) he hpl
  exact run_fn F hr hb hd hx I1 r q
theorem pe_meth {pl : Sem Bool} (he : PE X o ta) (c : Cls X.K C) (hm : Meth X.K C m f) (F : FnOk X.prog X.w X.K X.mg X.base CX k f fd ps sp) (hr : Room k X.A) (hb : Binds X.K fd ps ds) (hd : Vals dvs ds) (hx : Passes CX X E) (ha : PA X (e :: es) t)
    (hst : starEach (e :: es) X.env = (false, eval e X.env) :: starEach es X.env := by rfl) (hpl : (backTo pos (starEach es X.env)).any (·.1) = false := by rfl)
    (ht : eval (.Call (.Attribute o m apos) (e :: es) [] pos) X.env = (do
      let ov ← eval o X.env
      standAt apos.atName
      let (f, first) ← holding [ov] (getMethod ov m pl)
      callWith pos f first (backTo pos (starEach (e :: es) X.env)) (backToKw pos (keywordEach [] X.env))) := by rfl) :
    PE X (.Call (.Attribute o m apos) (e :: es) [] pos) (tMeth C m sp dvs E ta t) := by
  intro pins s σ H Q I h
  refine PySem.W.methodCall_KW (pl := pl) (thn (he pins s σ H _ I h) fun u s1 ⟨x, H1, I1, rx, a, dx, fs, ex, ea, l, q⟩ => ?_) ht
  subst ex
  obtain rfl : u = Value.ref a := rx
  refine getmeth_ok I1 ea c hm l ?_
  refine PySem.W.callWith_K (first := [.ref a]) (h₀ := X.base) I.ok.mod.kin hm.kp (thn (ha pos pins s1 σ H1 _ I1 q) fun us s2 ⟨vs, H2, I2, r, q2⟩ => ⟨I2.kIn, ?_⟩) hst hpl
  exact run_fn (us := .ref a :: us) (vs := .ref a :: vs) F hr hb hd hx I2 (.cons rfl r) q2
theorem pe_meth0 {pl : Sem Bool} (he : PE X o ta) (c : Cls X.K C) (hm : Meth X.K C m f) (F : FnOk X.prog X.w X.K X.mg X.base CX k f fd ps sp) (hr : Room k X.A) (hb : Binds X.K fd ps ds) (hd : Vals dvs ds) (hx : Passes CX X E)
    (ht : eval (.Call (.Attribute o m apos) [] [] pos) X.env = (do
      let ov ← eval o X.env
      standAt apos.atName
      let (f, first) ← holding [ov] (getMethod ov m pl)
      callWith pos f first (backTo pos (starEach [] X.env)) (backToKw pos (keywordEach [] X.env))) := by rfl) :
    PE X (.Call (.Attribute o m apos) [] [] pos) (tMeth C m sp dvs E ta tNil) := by
  intro pins s σ H Q I h
  refine PySem.W.methodCall_KW (pl := pl) (thn (he pins s σ H _ I h) fun u s1 ⟨x, H1, I1, rx, a, dx, fs, ex, ea, l, q⟩ => ?_) ht
  subst ex
  obtain rfl : u = Value.ref a := rx
  refine getmeth_ok I1 ea c hm l ?_
  exact PySem.W.callWith_K0 (first := [.ref a]) I1.kIn hm.kp (run_fn (us := [.ref a]) (vs := [.ref a]) F hr hb hd hx I1 (.cons rfl .nil) q)
structure Mk (K : PySem.W.Frag) (C f : Addr) : Prop where
  makes : PySem.W.makesIn K C = true
  init : PySem.W.findIn K (.ref C) "__init__" = some (some (.ref f))
  fn : PySem.W.isFn K (.ref f) = true
  kp : PySem.W.keepIn K (.ref C) = true
theorem run_make {pins : List (Addr × Obj)} {σ : St} {H : Hp} {s : Shared} {Q : VK} {us : List Value} {vs : List V} (M : Mk X.K C f) (F : FnOk X.prog X.w X.K X.mg X.base CX k f fd ps sp) (hr : Room (k + 1) X.A) (hb : Binds X.K fd ps ds) (hd : Vals dvs ds)
    (hx : Passes CX X E) (I : Inv X pins σ H s) (r : Vals vs us)
    (h : ∀ x dx, H x = none → H dx = none → dx ≠ x → sp (.ref x :: (vs ++ dvs)) (upd (upd H dx (.own x)) x (.ins C dx [])) (fun v H2 => v = .non ∧ Q (.ref x) H2) E) :
    wpAny (model X.prog X.w) X.A (call (.ref C) us) (EP X pins σ Q) X.xe s := by
  have hq := h (s.heap.objs.size + 1) s.heap.objs.size (I.hok.fresh (Nat.le_succ _)) (I.hok.fresh (Nat.le_refl _)) (Nat.ne_of_lt (Nat.lt_succ_self _))
  have I2 := Inv.made (C := C) I
  have r2 : Vals (V.ref (s.heap.objs.size + 1) :: (vs ++ dvs)) (Value.ref (s.heap.objs.size + 1) :: (us ++ ds)) := .cons rfl (r.append hd)
  have hl : (Value.ref (s.heap.objs.size + 1) :: us ++ ds).length = ps.length := by
    have e := r2.length
    rw [F.len _ _ _ _ hq] at e
    exact e.symm
  refine wpAny_call (make_map (f := f) I.kIn M.makes M.init (beq_iff_eq.mp M.fn) (codeAny_mono (F.run _ X.stack _ _ ⟨Value.ref (s.heap.objs.size + 1) :: us, []⟩ (Value.ref (s.heap.objs.size + 1) :: (us ++ ds)) _ _ E (hr.make C us [])
    (I2.env0.make C us []) (hb _ (Value.ref (s.heap.objs.size + 1) :: us) I2.kIn hl) r2 hq) fun r s' hq' => ?_))
  cases r with
  | error e => exact hx pins σ _ _ e s' I2 hq'
  | ok fl =>
    cases fl with
    | ret u =>
      obtain ⟨v, H', I3, rv, ev, q3⟩ := I2.after hq'
      subst ev
      exact ⟨rv, ⟨V.ref (s.heap.objs.size + 1), H', I3, rfl, q3⟩⟩
    | next => exact False.elim hq'
    | brk => exact False.elim hq'
    | cont => exact False.elim hq'
theorem pe_make (M : Mk X.K C f) (F : FnOk X.prog X.w X.K X.mg X.base CX k f fd ps sp) (hr : Room (k + 1) X.A) (hg : Gl X x) (hm : X.mg x = some (.ref C)) (hb : Binds X.K fd ps ds) (hd : Vals dvs ds) (hx : Passes CX X E)
    (ha : PA X (e :: es) t) (hdb : (x == ("__debug__" : Str)) = false := by decide) (he : starEach (e :: es) X.env = (false, eval e X.env) :: starEach es X.env := by rfl) (hpl : (backTo pos (starEach es X.env)).any (·.1) = false := by rfl) :
    PE X (.Call (.Name x p) (e :: es) [] pos) (tMake C sp dvs E t) := by
  intro pins s σ H Q I h
  refine wpAny_Call_Name_kw (ld_glob I hg hm ?_ hdb)
  refine PySem.W.callWith_K (h₀ := X.base) I.ok.mod.kin M.kp (thn (ha pos pins s σ H _ I h) fun us s1 ⟨vs, H1, I1, r, q⟩ => ⟨I1.kIn, ?_⟩) he hpl
  exact run_make M F hr hb hd hx I1 r q
end
section
variable {X : Cx} {CX : CXT} {k : Nat} {f C : Addr} {fd : FuncData} {ps ks : List Str} {sp : Sp} {E : XK} {x m : Str} {p pos apos kpos : Pos} {e o : Expr} {es : List Expr} {kws : List Keyword} {te ta : TE} {t tk : TA} {nm : Option Str}
variable {g : List Value → List Value → List Value} {gV : List V → List V → List V}
end
structure FnScope (N P : List Str) (sc : Scope) : Prop where
  kind : sc.kind = .function
  co : sc.isCoroutine = false
  gen : sc.isGenerator = false
  nd : N.Nodup
  pre : N.take P.length = P
  par : ∀ x ∈ P, sc.names.lookup x = some .local ∨ sc.names.lookup x = some .cell
  nofree : ∀ y ∈ sc.names, y.2 ≠ .free
theorem bindL_out {kindOf : Str → Option NameKind} {x : Str} : ∀ {binds : List (Str × Value)} {m : Str → Option Value}, (∀ v, (x, v) ∉ binds) → bindL kindOf binds m x = m x
  | [], _, _ => rfl
  | (n, v) :: r, m, h => by
    unfold bindL
    rw [bindL_out fun w hw => h w (List.mem_cons_of_mem _ hw)]
    split
    · have : x ≠ n := by rintro rfl; exact h v List.mem_cons_self
      simp [this]
    · rfl
theorem bindC_out {kindOf : Str → Option NameKind} {x : Str} : ∀ {binds : List (Str × Value)} {m : Str → Option Value}, (∀ v, (x, v) ∉ binds) → bindC kindOf binds m x = m x
  | [], _, _ => rfl
  | (n, v) :: r, m, h => by
    unfold bindC
    rw [bindC_out fun w hw => h w (List.mem_cons_of_mem _ hw)]
    split
    · rfl
    · have : x ≠ n := by rintro rfl; exact h v List.mem_cons_self
      simp [this]
theorem bindL_get {kindOf : Str → Option NameKind} {x : Str} {v : Value} : ∀ {P : List Str} {vs : List Value} {i : Nat} {m : Str → Option Value}, P.Nodup → P[i]? = some x → vs[i]? = some v → kindOf x = some .local →
    bindL kindOf (P.zip vs) m x = some v
  | [], _, _, _, _, h, _, _ => by simp at h
  | _ :: _, [], _, _, _, _, h, _ => by simp at h
  | p :: P, w :: vs, 0, m, nd, h1, h2, hk => by
    simp at h1 h2; subst h1; subst h2
    show bindL kindOf ((p, w) :: P.zip vs) m p = _
    unfold bindL
    rw [bindL_out fun v hv => (List.nodup_cons.mp nd).1 (List.of_mem_zip hv).1, if_pos hk]
    simp
  | p :: P, w :: vs, i + 1, m, nd, h1, h2, hk => by
    show bindL kindOf ((p, w) :: P.zip vs) m x = _
    unfold bindL
    exact bindL_get (i := i) (List.nodup_cons.mp nd).2 (by simpa using h1) (by simpa using h2) hk
theorem bindC_get {kindOf : Str → Option NameKind} {x : Str} {v : Value} : ∀ {P : List Str} {vs : List Value} {i : Nat} {m : Str → Option Value}, P.Nodup → P[i]? = some x → vs[i]? = some v → kindOf x ≠ some .local →
    bindC kindOf (P.zip vs) m x = some v
  | [], _, _, _, _, h, _, _ => by simp at h
  | _ :: _, [], _, _, _, _, h, _ => by simp at h
  | p :: P, w :: vs, 0, m, nd, h1, h2, hk => by
    simp at h1 h2; subst h1; subst h2
    show bindC kindOf ((p, w) :: P.zip vs) m p = _
    unfold bindC
    rw [bindC_out fun v hv => (List.nodup_cons.mp nd).1 (List.of_mem_zip hv).1, if_neg hk]
    simp
  | p :: P, w :: vs, i + 1, m, nd, h1, h2, hk => by
    show bindC kindOf ((p, w) :: P.zip vs) m x = _
    unfold bindC
    exact bindC_get (i := i) (List.nodup_cons.mp nd).2 (by simpa using h1) (by simpa using h2) hk
def start (N : List Str) (vs : List V) : St := vs.map some ++ List.replicate (N.length - vs.length) none
def cxOf (CX : CXT) (P : Program) (w : World) (K : PySem.W.Frag) (mg : Str → Option Value) (base : Heap) (N : List Str) (qual : Str) (scope : Scope) (f : Addr) (cd : Value) (A : Around) (outer : List Env) (s : Shared) (H : Hp) (E : XK) : Cx where
  prog := P
  w := w
  K := K
  mg := mg
  base := base
  A := A.deeper (envOfC qual scope s.heap.objs.size f cd)
  N := N
  s_0 := s
  H_0 := H
  env := envOfC qual scope s.heap.objs.size f cd
  outer := outer
  stack := envOfC qual scope s.heap.objs.size f cd :: outer
  ex := []
  calm := true
  fn := fun _ => true
  pn := []
  xe := fun e s' => wpAny (model P w) (A.deeper (envOfC qual scope s.heap.objs.size f cd)) (leaving (envOfC qual scope s.heap.objs.size f cd) e) (fun _ s'' => CX outer H s E e s'') (fun e' s'' => CX outer H s E e' s'') s'
theorem cell_has {sc : Scope} {n : Nat} {x : Str} (h : sc.names.lookup x = some .cell) : ∃ c, (cellsFrom n sc.names []).lookup x = some c := by
  have q := PySem.W.cellsFrom_some sc.names n [] (.inl h)
  exact Option.isSome_iff_exists.mp q
theorem inv_start {CX : CXT} {P : Program} {w : World} {K : PySem.W.Frag} {mg : Str → Option Value} {base : Heap} {N ps : List Str} {qual : Str} {scope : Scope} {f : Addr} {cd : Value} {A : Around} {outer : List Env} {s s1 : Shared} {H : Hp} {E : XK} {us : List Value} {vs : List V}
    (S : FnScope N ps scope) (hd : A.handled = none) (e0 : Env0 P w K mg base A outer s H) (hl : vs.length = ps.length) (r : Vals vs us)
    (x : InCallC s s.heap.objs.size (bindL (envOfC qual scope s.heap.objs.size f cd).kindOf (ps.zip us) fun _ => none) (cellsFrom (s.heap.objs.size + 1) scope.names []) (bindC (envOfC qual scope s.heap.objs.size f cd).kindOf (ps.zip us) fun _ => none) s1) :
    Inv (cxOf CX P w K mg base N qual scope f cd A outer s H E) [] (start N vs) H s1 := by
  have hpl : ps.length ≤ N.length := by have := congrArg List.length S.pre; rw [List.length_take] at this; omega
  obtain ⟨h1, tk, rfl, hk⟩ := x.done
  have noA : ∀ b : Addr, b ∉ (cxOf CX P w K mg base N qual scope f cd A outer s H E).ex := fun b z => absurd (show b ∈ ([] : List Addr) from z) (by simp)
  refine ⟨⟨e0.mod, S.kind, rfl, rfl, Nat.le_refl _, fun y z c h1 h2 => ?_, fun y hy => ?_, fun y c _ h => ?_, fun _ => hd, Around.frames_deeper e0.frames, .inr ⟨rfl, rfl⟩, fun b z => absurd z (noA b), e0.bs, e0.bsz, fun b _ _ => noA b, fun b z => absurd z (noA b), e0.funs, e0.frf⟩,
    rfl, e0.bare, Un.kept hk, ⟨_, x.toInCall.ns, fun i y v h1 h2 h3 => ?_⟩, fun y c h => ⟨_, x.cell y c h⟩, e0.hok.fresh (Nat.le_refl _), fun y c h => ?_, fun p hp => absurd (show p ∈ ([] : List (Addr × Obj)) from hp) (by simp), e0.hok.kept hk, ?_⟩
  · exact name_of_addr x.apart (PySem.mem_of_lookup h1) (PySem.mem_of_lookup h2)
  · have hy : scope.names.lookup y = some .cell ∨ scope.names.lookup y = some .free := hy
    rcases hy with hy | hy
    · exact cell_has hy
    · exact absurd rfl (S.nofree _ (PySem.mem_of_lookup hy))
  · exact Nat.le_of_lt (x.above y c (PySem.mem_of_lookup h))
  · have hi : i < vs.length := by
      unfold start at h2
      by_cases hi : i < vs.length
      · exact hi
      · rw [List.getElem?_append_right (by simpa using hi)] at h2
        rw [List.getElem?_replicate] at h2
        split at h2 <;> cases h2
    have ha : vs[i]? = some v := by
      unfold start at h2
      rw [List.getElem?_append_left (by simpa using hi), List.getElem?_map] at h2
      cases e : vs[i]? with
      | none => rw [e] at h2; cases h2
      | some a => rw [e] at h2; cases h2; rfl
    obtain ⟨u, hu, rv⟩ := r.get ha
    have hp : ps[i]? = some y := by
      rw [← S.pre, List.getElem?_take_of_lt (by omega)]; exact h1
    have ndP : ps.Nodup := by rw [← S.pre]; exact S.nd.sublist (List.take_sublist _ _)
    refine ⟨u, rv, ?_⟩
    rcases S.par y (List.mem_of_getElem? hp) with k | k
    · exact .inl ⟨k, bindL_get ndP hp hu k⟩
    · obtain ⟨c, e⟩ := cell_has (n := s.heap.objs.size + 1) k
      refine .inr ⟨.inl k, c, e, ?_⟩
      have q := x.cell y c e
      rw [bindC_get ndP hp hu (by show scope.names.lookup y ≠ _; rw [k]; decide)] at q
      exact q
  · exact e0.hok.fresh (Nat.le_of_lt (x.above y c (PySem.mem_of_lookup h)))
  · unfold start
    show _ = N.length
    rw [List.length_append, List.length_map, List.length_replicate]
    omega
theorem fn_of {CX : CXT} {P : Program} {w : World} {K : PySem.W.Frag} {mg : Str → Option Value} {base : Heap} {k : Nat} {f : Addr} {name qual : Str} {params : Arguments} {body : List Stmt} {scope : Scope} {dV kV doc pm cdv ct oc : Value} {an od : Option Addr}
    {osl : Array (Option Value)} {N ps : List Str} {sp : Sp} (lk : K.lookup f = some ⟨oc, od, .func (PySem.W.fnOf name qual params body scope dV kV doc pm an cdv ct), osl⟩) (hcd : PySem.W.codeIn K cdv qual = true) (S : FnScope N ps scope)
    (len : ∀ vs H Q E, sp vs H Q E → vs.length = ps.length)
    (hbody : ∀ (A : Around) (outer : List Env) (s : Shared) (H : Hp) (vs : List V) (Q : VK) (E : XK), Room k (A.deeper (envOfC qual scope s.heap.objs.size f cdv)) → sp vs H Q E →
      ∃ t, PSs (cxOf CX P w K mg base N qual scope f cdv A outer s H E) body t ∧ t { nx := fun _ H' => Q .non H', rt := Q } (start N vs) H) :
    FnOk P w K mg base CX (k + 1) f (PySem.W.fnOf name qual params body scope dV kV doc pm an cdv ct) ps sp := by
  refine ⟨len, fun A outer s H args us vs Q E hr e0 hb r hsp => ?_⟩
  have hl := len _ _ _ _ hsp
  have KX : K.In s.heap := e0.mod.kin.keeps fun b o e => (e0.bs b o e).1
  have lim : s.heap.NoLimit := e0.mod.nolimit.keeps fun b o e => (e0.bs b o e).1
  have hkind : ∀ y ∈ ps.zip us, scope.names.lookup y.1 = some .local ∨ (scope.names.lookup y.1 = some .cell ∧ ((cellsFrom (s.heap.objs.size + 1) scope.names []).lookup y.1).isSome = true) := fun ⟨n, v⟩ hy => by
    rcases S.par n (List.of_mem_zip hy).1 with q | q
    · exact .inl q
    · exact .inr ⟨q, PySem.W.cellsFrom_some _ _ _ (.inl q)⟩
  refine codeAny_call_function hr.depth (KX _ _ lk) rfl S.co S.gen rfl (PySem.W.codeRec_of KX hcd) (hb _ _ _ _ ?_)
  refine wpAny_newFunctionEnv_cells S.kind hkind fun env he s1 x => ?_
  subst he
  refine ⟨lim.keeps x.toInCall.keep, codeAny_func ?_⟩
  obtain ⟨t, ht, hq⟩ := hbody A outer s H vs Q E (hr.deeper _) hsp
  have I : Inv (cxOf CX P w K mg base N qual scope f cdv A outer s H E) [] (start N vs) H s1 := inv_start S hr.hd e0 hl r x
  refine wpAny_mono (ht [] s1 (start N vs) H _ I hq) (fun fl s' hs => ?_) fun e s' hs => hs
  have fin : ∀ {σ' : St} {H' : Hp} {v : V} {u : Value}, Inv (cxOf CX P w K mg base N qual scope f cdv A outer s H E) [] σ' H' s' → RelV v u → Q v H' → CE outer P w H s Q u s' :=
    fun {σ' H' v u} J rv q => ⟨v, H', J.os, J.bare, J.base, J.hok, rv, q⟩
  cases fl with
  | ret u =>
    obtain ⟨v, σ', H', J, rv, q⟩ := hs
    exact fin J rv q
  | next =>
    obtain ⟨σ', H', J, q⟩ := hs
    exact fin (v := V.non) (u := Value.none) J rfl q
  | brk =>
    obtain ⟨_, _, _, q⟩ := hs
    exact False.elim q
  | cont =>
    obtain ⟨_, _, _, q⟩ := hs
    exact False.elim q
end L2
namespace L2
open PySem PySem.Spec PyProof.Rows
section
variable {X : Cx} {x : Str} {p pos : Pos} {e : Expr} {es : List Expr} {t : TA} {id T : String} {r : List V → Hp → VK → Prop}
def tCB (r : List V → Hp → VK → Prop) (t : TA) : TE := fun σ H Q => t σ H fun vs H1 => r vs H1 Q
theorem pe_callB (hc : CallR X (.builtin id) r) (hg : Gl X x) (hm : X.mg x = none) (hv : bootBuiltins x = some (.builtin id)) (ha : PA X (e :: es) t) (hn : x ≠ "__name__" := by decide) (hdb : (x == ("__debug__" : Str)) = false := by decide)
    (he : starEach (e :: es) X.env = (false, eval e X.env) :: starEach es X.env := by rfl) (hpl : (backTo pos (starEach es X.env)).any (·.1) = false := by rfl) : PE X (.Call (.Name x p) (e :: es) [] pos) (tCB r t) := by
  intro pins s σ H Q I h
  refine wpAny_Call_Name_kw (ld_blt I hg hm hv ?_ hn hdb)
  exact PyProof.Rows.callWith_builtin1 (thn (ha pos pins s σ H _ I h) fun us s1 ⟨vs, H1, I1, r1, q1⟩ => hc pins s1 σ H1 vs us Q I1 r1 q1) he hpl
theorem pe_callTy (hc : CallR X (.type T) r) (hg : Gl X x) (hm : X.mg x = none) (hv : bootBuiltins x = some (.type T)) (ha : PA X (e :: es) t) (hn : x ≠ "__name__" := by decide) (hdb : (x == ("__debug__" : Str)) = false := by decide)
    (he : starEach (e :: es) X.env = (false, eval e X.env) :: starEach es X.env := by rfl) (hpl : (backTo pos (starEach es X.env)).any (·.1) = false := by rfl) : PE X (.Call (.Name x p) (e :: es) [] pos) (tCB r t) := by
  intro pins s σ H Q I h
  refine wpAny_Call_Name_kw (ld_blt I hg hm hv ?_ hn hdb)
  exact PyProof.Rows.callWith_type1 (thn (ha pos pins s σ H _ I h) fun us s1 ⟨vs, H1, I1, r1, q1⟩ => hc pins s1 σ H1 vs us Q I1 r1 q1) he hpl
end
end L2
namespace HT
open PySem PyProof.Rows
section
open PySem.SeqAt
open PySem.AutoSeq1 (wpAny_loadPart')
open PySem.MeetsSeq PySem.MeetsSeq2 PySem.MeetsSeq3
end
section
variable {prog : Program} {w : World} {A : Around} {E : Value → Shared → Prop} {s : Shared}
def sIx (n d : Nat) : Option Int → Nat
  | none => d
  | some v => if v < 0 then (v + (n : Int)).toNat else min v.toNat n
end
end HT
namespace L2
open PySem PySem.Spec PyProof.Rows
abbrev TO := St → Hp → (Option Int → Hp → Prop) → Prop
def PO (X : Cx) (e : Option Expr) (t : TO) : Prop :=
  ∀ (pins : List (Addr × Obj)) (s : Shared) (σ : St) (H : Hp) (Q : Option Int → Hp → Prop), Inv X pins σ H s → t σ H Q →
    wpAny (model X.prog X.w) X.A (evalPart e X.env) (fun u s' => ∃ o H', Inv X pins σ H' s' ∧ IsPart u o ∧ Q o H') X.xe s
def tNoPart : TO := fun _ H Q => Q none H
def tPart (t : TE) : TO := fun σ H Q => t σ H fun x H1 => ∃ i, x = .int i ∧ Q (some i) H1
section
variable {X : Cx} {e : Expr} {te : TE} {lo hi : Option Expr} {tl th : TO} {pos p2 : Pos}
theorem po_none : PO X none tNoPart := by
  intro pins s σ H Q I h
  rw [evalPart_none]
  exact wpAny_pure ⟨none, H, I, .none, h⟩
theorem po_some (h : PE X e te) : PO X (some e) (tPart te) := by
  intro pins s σ H Q I hw
  rw [evalPart_some]
  refine thn (h pins s σ H _ I hw) fun u s1 ⟨x, H1, I1, r1, q1⟩ => ?_
  obtain ⟨i, rfl, q⟩ := q1
  obtain ⟨t, rfl⟩ := r1
  exact ⟨some i, H1, I1, .int i t, q⟩
def SlR (X : Cx) (r : V → Option Int → Option Int → Hp → VK → Prop) : Prop :=
  ∀ (pins : List (Addr × Obj)) (s : Shared) (σ : St) (H : Hp) (x : V) (v vl vu : Value) (lo hi : Option Int) (sl : Addr) (Q : VK), Inv X pins σ H s → RelV x v → s.heap.IsSliceOf sl vl vu .none → IsPart vl lo → IsPart vu hi → r x lo hi H Q →
    ∃ T id, typeLookup (.type T) "__getitem__" = pure (some (.builtin id)) ∧ s.TypeIs v T ∧ wpAny (model X.prog X.w) X.A (getItem v (.ref sl)) (EP X pins σ Q) X.xe s
def tSl (r : V → Option Int → Option Int → Hp → VK → Prop) (te : TE) (tl th : TO) : TE := fun σ H Q => te σ H fun x H1 => tl σ H1 fun l H2 => th σ H2 fun u H3 => r x l u H3 Q
theorem pe_slice {r : V → Option Int → Option Int → Hp → VK → Prop} (hr : SlR X r) (he : PE X e te) (hl : PO X lo tl) (hu : PO X hi th) : PE X (.Subscript e (.Slice lo hi none p2) pos) (tSl r te tl th) := by
  intro pins s σ H Q I h
  refine Subscript_ (thn (he pins s σ H _ I h) fun v s1 ⟨x, H1, I1, r1, q1⟩ => ?_)
  refine wpAny_Slice (thn (hl pins s1 σ H1 _ I1 q1) fun vl s2 ⟨l, H2, I2, pl, q2⟩ => thn (hu pins s2 σ H2 _ I2 q2) fun vu s3 ⟨u, H3, I3, pu, q3⟩ => ?_)
  rw [evalPart_none]
  refine wpAny_pure ?_
  have I4 : Inv X pins σ H3 { s3 with heap := s3.heap.push { cls := .type "slice", data := .fields #[vl, vu, .none] } } := I3.kept (t' := s3.toks) fun b ob q => Heap.get?_push_of_some _ q
  obtain ⟨T, id, hT, ht, hg⟩ := hr pins { s3 with heap := s3.heap.push { cls := .type "slice", data := .fields #[vl, vu, .none] } } σ H3 x v vl vu l u s3.heap.objs.size Q I4 r1 (Heap.IsSliceOf.new ..) pl pu q3
  show wpAny (model X.prog X.w) X.A (subscriptTail e (.Slice lo hi none p2) v (.ref s3.heap.objs.size)) (EP X pins σ Q) X.xe { s3 with heap := s3.heap.push { cls := .type "slice", data := .fields #[vl, vu, .none] } }
  exact tail_any (ops := [.ref s3.heap.objs.size, v]) ht hT hg (by with_unfolding_all rfl)
def cutV (xs : List V) (lo hi : Option Int) : List V := (xs.drop (HT.sIx xs.length 0 lo)).take (HT.sIx xs.length xs.length hi - HT.sIx xs.length 0 lo)
theorem cutV_length (xs : List V) (lo hi : Option Int) : (cutV xs lo hi).length ≤ xs.length := by
  unfold cutV
  rw [List.length_take, List.length_drop]
  omega
end
end L2
namespace L2
open PySem PySem.Spec PyProof.Rows
def ixN (n : Nat) (i : Int) : Option Nat := if 0 ≤ i then (if i < n then some i.toNat else none) else if -(n : Int) ≤ i then some (i + n).toNat else none
def atI {α : Type} (xs : List α) (i : Int) : Option α := (ixN xs.length i).bind fun j => xs[j]?
theorem ixN_seq {n : Nat} {i : Int} {j : Nat} (h : ixN n i = some j) : seqIndex? i n = some j ∧ j < n ∧ -(n : Int) ≤ i ∧ i < n := by
  unfold ixN at h
  by_cases h0 : 0 ≤ i
  · rw [if_pos h0] at h
    by_cases h1 : i < n
    · rw [if_pos h1] at h
      have e : i.toNat = j := Option.some.inj h
      exact ⟨by rw [seqIndex_of h0 h1, e], by omega, by omega, h1⟩
    · rw [if_neg h1] at h; cases h
  · rw [if_neg h0] at h
    by_cases h1 : -(n : Int) ≤ i
    · rw [if_pos h1] at h
      have e : (i + n).toNat = j := Option.some.inj h
      exact ⟨by rw [seqIndex_neg (by omega) h1, e], by omega, h1, by omega⟩
    · rw [if_neg h1] at h; cases h
theorem atI_get {α : Type} {xs : List α} {i : Int} {v : α} (h : atI xs i = some v) : ∃ j, seqIndex? i xs.length = some j ∧ xs[j]? = some v ∧ j < xs.length ∧ -(xs.length : Int) ≤ i ∧ i < xs.length := by
  unfold atI at h
  cases e : ixN xs.length i with
  | none => rw [e] at h; cases h
  | some j =>
    rw [e] at h
    obtain ⟨h1, h2, h3, h4⟩ := ixN_seq e
    exact ⟨j, h1, h, h2, h3, h4⟩
theorem atI_nat {α : Type} {xs : List α} {j : Nat} {v : α} (h : xs[j]? = some v) : atI xs (j : Int) = some v := by
  have hj : j < xs.length := (List.getElem?_eq_some_iff.mp h).1
  have e : ixN xs.length (j : Int) = some j := by
    unfold ixN
    rw [if_pos (by omega), if_pos (by omega)]; simp
  unfold atI; rw [e]; exact h
def PlainIx (b : Expr) : Prop := ∀ o i, subscripted b false o i = operate [o, i] (getItem o i)
def IxR (X : Cx) (r : R2) : Prop :=
  ∀ (value slice : Expr) (pins : List (Addr × Obj)) (s : Shared) (σ : St) (H : Hp) (x y : V) (v u : Value) (Q : VK), Inv X pins σ H s → RelV x v → RelV y u → r x y H Q →
    subscripted slice false v u = operate [v, u] (getItem v u) → wpAny (model X.prog X.w) X.A (subscriptTail value slice v u) (EP X pins σ Q) X.xe s
def MtR (X : Cx) (id : String) (r : V → List V → Hp → VK → Prop) : Prop :=
  ∀ (pins : List (Addr × Obj)) (s : Shared) (σ : St) (H : Hp) (x : V) (xs : List V) (v : Value) (us : List Value) (Q : VK), Inv X pins σ H s → RelV x v → Vals xs us → r x xs H Q →
    wpAny (model X.prog X.w) X.A (call (.builtin id) (v :: us)) (EP X pins σ Q) X.xe s
section
variable {X : Cx} {a b : Expr} {ta tb : TE} {pos : Pos}
theorem pe_ix {r : R2} (hr : IxR X r) (ha : PE X a ta) (hb : PE X b tb) (hs : PlainIx b) : PE X (.Subscript a b pos) (tOp r ta tb) := by
  intro pins s σ H Q I h
  exact Subscript_ (binT ha hb I h fun v u s2 x y H2 I2 rx ry q => hr a b pins s2 σ H2 x y v u Q I2 rx ry q (hs _ _))
def rIxL (K : PySem.W.Frag) : R2 := fun x y H Q => ∃ p xs i v, x = .ref p ∧ y = .int i ∧ SqL K H p xs ∧ atI xs i = some v ∧ Q v H
def rIxT (K : PySem.W.Frag) : R2 := fun x y H Q => ∃ p xs i v, x = .ref p ∧ y = .int i ∧ SqT K H p xs ∧ atI xs i = some v ∧ Q v H
theorem ix_list : IxR X (rIxL X.K) := by
  intro value slice pins s σ H x y v u Q I rx ry h hs
  obtain ⟨p, xs, i, z, rfl, rfl, hq, he, q⟩ := h
  cases rx
  obtain ⟨t, rfl⟩ := ry
  obtain ⟨its, r, pl, hz⟩ := I.list hq
  obtain ⟨j, h1, h2, h3, h4, h5⟩ := atI_get he
  obtain ⟨w, ew, rw'⟩ := r.get h2
  have hl := r.length
  have hn := line63
  have fin : EP X pins σ Q w s := ⟨z, H, I, rw', q⟩
  by_cases h0 : 0 ≤ i
  · have hj : i.toNat = j := by
      rw [seqIndex_of h0 h5] at h1
      exact Option.some.inj h1
    exact item_listR pl.isList h0 (by omega) (by rw [hj]; simpa using ew) fin hs
  · have hj : (i + (its.toArray.size : Int)).toNat = j := by
      rw [seqIndex_neg (by omega) h4] at h1
      rw [List.size_toArray, ← hl]
      exact Option.some.inj h1
    exact subscriptTail_builtinR (x := w) pl.isList.typeIs slot_list_getitem.lookup
      (wpAny_getItem_list_neg (Q := fun r s' => r = w ∧ EP X pins σ Q r s') pl.isList (by omega) (by rw [List.size_toArray] <;> omega) (by omega) (by rw [hj]; simpa using ew) ⟨rfl, fin⟩) hs
theorem ix_tup : IxR X (rIxT X.K) := by
  intro value slice pins s σ H x y v u Q I rx ry h hs
  obtain ⟨p, xs, i, z, rfl, rfl, hq, he, q⟩ := h
  cases rx
  obtain ⟨t, rfl⟩ := ry
  obtain ⟨its, r, pl, hz⟩ := I.tuple hq
  obtain ⟨j, h1, h2, h3, h4, h5⟩ := atI_get he
  obtain ⟨w, ew, rw'⟩ := r.get h2
  have hl := r.length
  have hn := line63
  have fin : EP X pins σ Q w s := ⟨z, H, I, rw', q⟩
  exact subscriptTail_builtinR (x := w) pl.typeIs slot_tuple_getitem.lookup
    (getItem_tuple (j := j) (Q := fun r s' => r = w ∧ EP X pins σ Q r s') pl (by omega) (by omega) (by rw [List.size_toArray, ← hl]; exact h1) (by simpa using ew) ⟨rfl, fin⟩) hs
theorem slice_bounds (lo hi : Option Int) (n : Nat) : (sliceBounds lo hi none n).1 = ((HT.sIx n 0 lo : Nat) : Int) ∧ (sliceBounds lo hi none n).2.1 = ((HT.sIx n n hi : Nat) : Int) ∧ (sliceBounds lo hi none n).2.2 = 1 := by
  refine ⟨?_, ?_, rfl⟩
  · cases lo with
    | none => simp [sliceBounds, HT.sIx]
    | some i =>
      simp only [sliceBounds, HT.sIx, Option.getD_none, show (1 : Int) > 0 by decide, if_true]
      by_cases h : i < 0
      · simp only [h, if_true] <;> omega
      · simp only [h, if_false] <;> omega
  · cases hi with
    | none => simp [sliceBounds, HT.sIx]
    | some i =>
      simp only [sliceBounds, HT.sIx, Option.getD_none, show (1 : Int) > 0 by decide, if_true]
      by_cases h : i < 0
      · simp only [h, if_true] <;> omega
      · simp only [h, if_false] <;> omega
theorem slicePick_cut (its : List Value) (lo hi : Option Int) : slicePick its.toArray lo hi none = ((its.drop (HT.sIx its.length 0 lo)).take (HT.sIx its.length its.length hi - HT.sIx its.length 0 lo)).toArray := by
  obtain ⟨h1, h2, h3⟩ := slice_bounds lo hi its.toArray.size
  unfold slicePick
  rw [h1, h2, h3]
  simp only [sliceRange_one, pick_run, List.size_toArray] <;> rfl
def rSlL (K : PySem.W.Frag) : V → Option Int → Option Int → Hp → VK → Prop := fun x lo hi H Q => ∃ a xs, x = .ref a ∧ SqL K H a xs ∧ ∀ p, H p = none → Q (.ref p) (upd H p (.lst (cutV xs lo hi)))
theorem sl_list : SlR X (rSlL X.K) := by
  intro pins s σ H x v vl vu lo hi sl Q I rx hs pl pu h
  obtain ⟨a, xs, rfl, hx, q⟩ := h
  cases rx
  obtain ⟨its, r, ht, hz⟩ := I.list hx
  have hlen := r.length
  refine ⟨"list", _, slot_list_getitem.lookup, ht.isList.typeIs, ?_⟩
  refine wpAny_getItem_list_slice ht.isList hs pl pu .none (by simp) ?_ (by rw [List.size_toArray] <;> omega)
  rw [slicePick_cut, ← hlen]
  refine ⟨.ref s.heap.objs.size, _, I.laid (t' := s.toks) (o := .lst (cutV xs lo hi)) (fun b ob q => Heap.get?_push_of_some _ q) (Nat.le_refl _) ?_, rfl, q _ (I.hok.fresh (Nat.le_refl _))⟩
  exact ⟨Nat.le_trans (cutV_length xs lo hi) hz, _, 0, (r.drop (HT.sIx xs.length 0 lo)).take (HT.sIx xs.length xs.length hi - HT.sIx xs.length 0 lo), Heap.get?_push_size _ rfl⟩
theorem call_len_seq : CallR X (.builtin "len") (fun xs H Q => ∃ p ys, xs = [.ref p] ∧ (SqL X.K H p ys ∨ SqT X.K H p ys) ∧ Q (.int ys.length) H) := by
  intro pins s σ H xs us Q I r h
  obtain ⟨p, ys, rfl, hq, q⟩ := h
  obtain ⟨u, rfl, rx⟩ := vals1 r
  cases rx
  have hn := line63
  rcases hq with hq | hq
  · obtain ⟨its, r', pl, hz⟩ := I.list hq
    have hlen := r'.length
    exact Calls.call_len_list pl.isList (by simp only [List.size_toArray] <;> omega) ⟨.int ys.length, H, I.tok _, ⟨s.toks + 1, by rw [List.size_toArray, hlen]⟩, q⟩
  · obtain ⟨its, r', pl, hz⟩ := I.tuple hq
    have hlen := r'.length
    exact len_tuple pl (by simp only [List.size_toArray] <;> omega) ⟨.int ys.length, H, I.tok _, ⟨s.toks + 1, by rw [List.size_toArray, hlen]⟩, q⟩
theorem call_list_of : CallR X (.type "list") (fun xs H Q => ∃ p ys, xs = [.ref p] ∧ (SqL X.K H p ys ∨ SqT X.K H p ys) ∧ ∀ l, H l = none → Q (.ref l) (upd H l (.lst ys))) := by
  intro pins s σ H xs us Q I r h
  obtain ⟨p, ys, rfl, hq, q⟩ := h
  obtain ⟨u, rfl, rx⟩ := vals1 r
  cases rx
  have fin : ∀ (its : List Value), Vals ys its → ys.length ≤ sizeLine → ∀ (h' : Heap) (c' : Nat), (∀ b o', s.heap.get? b = some o' → h'.get? b = some o') →
      h'.get? s.heap.objs.size = some { cls := .type "list", dict := none, data := .seq its.toArray c', slots := #[] } → EP X pins σ Q (.ref s.heap.objs.size) { s with heap := h' } := fun its r' hz h' c' kp e =>
    ⟨.ref s.heap.objs.size, _, I.laid (t' := s.toks) kp (Nat.le_refl _) (show ObjOk X.prog X.w _ h' _ (.lst ys) from ⟨hz, its, c', r', e⟩), rfl, q _ (I.hok.fresh (Nat.le_refl _))⟩
  rcases hq with hq | hq
  · obtain ⟨its, r', pl, hz⟩ := I.list hq
    have hlen := r'.length
    obtain ⟨o, ho, hc, n, hd⟩ := pl.isList
    exact call_list_seq p (.inl rfl) ho hc hd (fun h' c' kp e => fin its r' hz h' c' kp e) (by simp only [List.size_toArray] <;> omega)
  · obtain ⟨its, r', pl, hz⟩ := I.tuple hq
    have hlen := r'.length
    obtain ⟨o, ho, hc, n, hd⟩ := pl
    exact call_list_seq p (.inr rfl) ho hc hd (fun h' c' kp e => fin its r' hz h' c' kp e) (by simp only [List.size_toArray] <;> omega)
def tyV (K : PySem.W.Frag) (T : String) (x : V) (H : Hp) : Prop := match x with
  | .str _ => T = "str"
  | .int _ => T = "int"
  | .ref p => (T = "list" ∧ ∃ xs, SqL K H p xs) ∨ (T = "tuple" ∧ ∃ o, K.lookup p = some o ∧ o.cls = .type "tuple" ∧ o.dict = none) ∨
      (T = "dict" ∧ ((∃ kvs, H p = some (.dK kvs)) ∨ ∃ kvs, H p = some (.dT kvs))) ∨ (T = "set" ∧ ∃ S n, H p = some (.set S n))
  | _ => False
theorem tyV_is {pins : List (Addr × Obj)} {σ : St} {H : Hp} {s : Shared} {T : String} {x : V} {v : Value} (I : Inv X pins σ H s) (r : RelV x v) (ty : tyV X.K T x H) :
    s.TypeIs v T ∧ ∀ a, v = .ref a → ∃ ob, s.heap.get? a = some ob ∧ ob.dict = none := by
  cases x with
  | str z =>
    obtain ⟨t, rfl⟩ := r
    cases (show T = "str" from ty)
    exact ⟨typeIs_str s z t, fun _ e => nomatch e⟩
  | int i =>
    obtain ⟨t, rfl⟩ := r
    cases (show T = "int" from ty)
    exact ⟨typeIs_int s i t, fun _ e => nomatch e⟩
  | ref p =>
    cases r
    rcases ty with ⟨rfl, xs, hq⟩ | ⟨rfl, o, hk, hc, hd⟩ | ⟨rfl, hk⟩ | ⟨rfl, S, n, hk⟩
    · obtain ⟨its, _, pl, _⟩ := I.list hq
      refine ⟨pl.isList.typeIs, fun a e => ?_⟩
      cases e
      obtain ⟨o, n, e, c, hd, _⟩ := pl
      exact ⟨o, e, hd⟩
    · refine ⟨⟨o, I.kIn p o hk, hc⟩, fun a e => ?_⟩
      cases e
      exact ⟨o, I.kIn _ o hk, hd⟩
    · have z : ∃ o, s.heap.get? p = some o ∧ o.ExactDict := by
        rcases hk with ⟨kvs, hk⟩ | ⟨kvs, hk⟩
        · obtain ⟨_, _, _, _, o, _, _, e, ex, _⟩ := I.hok p _ hk
          exact ⟨o, e, ex⟩
        · obtain ⟨_, _, _, _, o, _, _, e, ex, _⟩ := I.hok p _ hk
          exact ⟨o, e, ex⟩
      obtain ⟨o, e, ex⟩ := z
      refine ⟨⟨o, e, ex.1⟩, fun a e2 => ?_⟩
      cases e2
      exact ⟨o, e, ex.2.1⟩
    · obtain ⟨o, _, _, _, e, ex, _⟩ := I.hok p _ hk
      refine ⟨⟨o, e, ex.1⟩, fun a e2 => ?_⟩
      cases e2
      exact ⟨o, e, ex.2.1⟩
  | _ => exact False.elim ty
def tBM (K : PySem.W.Frag) (T : String) (r : V → List V → Hp → VK → Prop) (to : TE) (t : TA) : TE := fun σ H Q => to σ H fun x H1 => tyV K T x H1 ∧ t σ H1 fun xs H2 => r x xs H2 Q
variable {o e : Expr} {es : List Expr} {to : TE} {t : TA} {name : Str} {apos cpos : Pos} {T id : String} {r : V → List V → Hp → VK → Prop}
theorem pe_bm (pa : PlainAttrs T) (slot : Slot T name id) (hty : typeOf (.builtin id) = pure (.type "method_descriptor")) (hm : MtR X id r) (ho : PE X o to) (ha : PA X (e :: es) t)
    (hbase : attributeBase o name X.env (eval o X.env) = eval o X.env := by rfl)
    (hfew : ((backTo cpos (starEach (e :: es) X.env)).all (fun x => !x.1) && (backToKw cpos (keywordEach [] X.env)).all (fun x => x.1.isSome)
      && decide ((e :: es).length + ([] : List Keyword).length + (if ([] : List Keyword).isEmpty then 0 else 1) < 30)) = true := by rfl)
    (hline : (apos.endLine == cpos.line) = true := by rfl) (hs : starEach (e :: es) X.env = (false, eval e X.env) :: starEach es X.env := by rfl) (hplain : (backTo cpos (starEach es X.env)).any (·.1) = false := by rfl) :
    PE X (.Call (.Attribute o name apos) (e :: es) [] cpos) (tBM X.K T r to t) := by
  intro pins s σ H Q I h
  refine wpAny_Call_method_late hbase hfew hline rfl (thn (ho pins s σ H _ I h) fun v s1 ⟨x, H1, I1, r1, ty, q1⟩ => ?_)
  obtain ⟨h1, h2⟩ := tyV_is I1 r1 ty
  refine ⟨T, id, pa, slot, hty, h1, h2, ?_⟩
  have hA := ha cpos pins s1 σ H1 _ I1 q1
  rw [hs] at hA ⊢
  refine Calls.callWith_builtin (by show (false || (backTo cpos (starEach es X.env)).any (·.1)) = false; rw [hplain] <;> rfl) (Calls.evalArgs_plain ?_)
  exact thn hA fun us s2 ⟨vs, H2, I2, r2, q2⟩ => hm pins s2 σ H2 x vs v us Q I2 r1 r2 q2
end
end L2
namespace L2
open PySem PySem.Spec PyProof.Rows
def MtM (X : Cx) (id : String) (r : V → List V → Hp → VK → Prop) : Prop :=
  ∀ (pins : List (Addr × Obj)) (s : Shared) (σ : St) (H : Hp) (x : V) (xs : List V) (v : Value) (us : List Value) (Q : VK), Inv X pins σ H s → RelV x v → Vals xs us → r x xs H Q →
    wpAny (model X.prog X.w) X.A (call (.builtin id) (v :: us)) (EP X pins σ Q) X.xe s
theorem Vals.one : ∀ {x : V} {us : List Value}, Vals [x] us → ∃ u, us = [u] ∧ RelV x u
  | _, _, .cons r .nil => ⟨_, rfl, r⟩
section
variable {X : Cx} {pins : List (Addr × Obj)} {σ : St} {H : Hp} {s : Shared} {l b : Addr} {xs ys zs : List V}
theorem Inv.lset {its its' : List Value} {n : Nat} {f : Array Value → Array Value} {t' : Nat} (I : Inv X pins σ H s) (hH : H l = some (.lst xs))
    (e : s.heap.get? l = some { cls := .type "list", data := .seq its.toArray n }) (hf : f its.toArray = its'.toArray) (hv : Vals ys its') (hz : ys.length ≤ sizeLine) :
    Inv X pins σ (upd H l (.lst ys)) { s with heap := s.heap.update l (Obj.mapSeq f), toks := t' } := by
  have q := PySem.IsL.update e f
  rw [hf] at q
  refine I.write (x := l) (e := l) (by rw [hH]; exact trivial) (.inl rfl) (fun b' u hb hu => (Heap.get?_update_other s.heap (Obj.mapSeq f) (Ne.symm hb)).trans hu) ⟨_, q⟩ ?_
  exact ⟨hz, its', _, hv, q⟩
theorem Inv.lnew {its : List Value} {t' : Nat} (I : Inv X pins σ H s) (hv : Vals ys its) (hz : ys.length ≤ sizeLine) :
    Inv X pins σ (upd H s.heap.objs.size (.lst ys)) { s with heap := s.heap.push { cls := .type "list", data := .seq its.toArray }, toks := t' } :=
  I.laid (fun _ _ q => Heap.get?_push_of_some _ q) (Nat.le_refl _) ⟨hz, its, 0, hv, Heap.get?_push_size _ rfl⟩
theorem Inv.fresh (I : Inv X pins σ H s) : H s.heap.objs.size = none := I.hok.fresh (Nat.le_refl _)
theorem Inv.lstM (I : Inv X pins σ H s) (hH : H l = some (.lst xs)) : xs.length ≤ sizeLine ∧ ∃ (its : List Value) (n : Nat), Vals xs its ∧ xs.length = its.length ∧ s.heap.get? l = some { cls := .type "list", data := .seq its.toArray n } := by
  obtain ⟨z, its, n, r, e⟩ := I.hok l _ hH
  exact ⟨z, its, n, r, r.length, e⟩
end
section
variable {X : Cx}
def rAppend : V → List V → Hp → VK → Prop := fun x vs H Q => ∃ l xs y, x = .ref l ∧ vs = [y] ∧ H l = some (.lst xs) ∧ xs.length < sizeLine ∧ Q .non (upd H l (.lst (xs ++ [y])))
theorem mt_append : MtM X "list.append" rAppend := by
  intro pins s σ H x vs v us Q I rx rv h
  obtain ⟨l, xs, y, rfl, rfl, hH, hz, q⟩ := h
  cases rx
  obtain ⟨u, rfl, ru⟩ := rv.one
  obtain ⟨z, its, n, r, hl, e⟩ := I.lstM hH
  refine call_meets F.slot_list_append ⟨_, e, rfl⟩ F.entry_list_append (F.args_list_append_2 _ _) (PySem.list_append l its.toArray n u (by rw [List.size_toArray]; omega)) ⟨e, ?_⟩
  refine ⟨.non, _, I.lset (its' := its ++ [u]) hH e (by simp) (r.append (.cons ru .nil)) ?_, rfl, q⟩
  rw [List.length_append, List.length_singleton]
  omega
end
section
variable {prog : Program} {w : World} {A : Around} {E : Value → Shared → Prop} {s : Shared}
end
section
variable {X : Cx}
end
end L2
namespace L2
open PySem PySem.Spec PyProof.Rows
theorem Vals.bls : ∀ {bs : List Bool} {us : List Value}, Vals (bs.map V.bl) us → us = bs.map Value.bool
  | [], us, h => by
    rw [List.map_nil] at h
    cases h
    rfl
  | b :: bs, us, h => by
    rw [List.map_cons] at h
    cases h with
    | cons r t =>
      cases r
      rw [Vals.bls t, List.map_cons]
theorem Vals.ref1 {a : Addr} {us : List Value} (r : Vals [V.ref a] us) : us = [Value.ref a] := by
  cases r with
  | cons r t =>
    cases t
    cases r
    rfl
section
variable {prog : Program} {w : World} {A : Around} {E : Value → Shared → Prop} {s : Shared} {l : Addr} {its : List Value} {ns : List Int} {Q : Value → Shared → Prop}
end
section
variable {X : Cx}
end
section
variable {X : Cx}
end
section
variable {X : Cx}
end
theorem iter_any {prog : Program} {w : World} {A : Around} {E : Value → Shared → Prop} {s : Shared} {l : Addr} {items : Array Value} {Q : Value → Shared → Prop} (hl : s.heap.IsList l items)
    (h : ∀ s₂ : Shared, s₂ = { s with heap := s.heap.push { cls := .type "list_iterator", data := .fields #[.ref l, .int 0 0] } } →
      (s₂.heap.IsListIter s.heap.objs.size l 0 ∧ s₂.heap.IsList l items) → l ≠ s.heap.objs.size → Q (.ref s.heap.objs.size) s₂) : wpAny (model prog w) A (pyIter (.ref l)) Q E s := by
  have hlt : l < s.heap.objs.size := by obtain ⟨_, e, _⟩ := hl; exact Heap.lt_size e
  exact wpAny_pyIter_list hl (h _ rfl ⟨⟨_, Heap.get?_push_size _ rfl, rfl, rfl⟩, hl.push _⟩ (Nat.ne_of_lt hlt))
theorem truth_bools {prog : Program} {w : World} {A : Around} {bs : List Bool} {its : List Value} (e : its = bs.map Value.bool) :
    TruthOf prog w A (fun i v => its.toArray[i]? = some v) (fun i => bs.getD i false) := fun i v s Q E hv hq => by
  have hv' : its[i]? = some v := by simpa using hv
  rw [e, List.getElem?_map] at hv'
  obtain ⟨b, hb, rfl⟩ := Option.map_eq_some_iff.mp hv'
  have hg : bs.getD i false = b := by rw [List.getD_eq_getElem?_getD, hb] <;> rfl
  have hq' : Q (bs.getD i false) s := hq
  rw [hg] at hq'
  exact wpAny_truthy_bool hq'
theorem any_range : ∀ bs : List Bool, (List.range bs.length).any (fun i => bs.getD i false) = bs.any id
  | [] => rfl
  | b :: bs => by
    rw [List.length_cons, List.range_succ_eq_map, List.any_cons, List.any_map, List.any_cons, ← any_range bs]
    all_goals rfl
theorem all_range : ∀ bs : List Bool, (List.range bs.length).all (fun i => bs.getD i false) = bs.all id
  | [] => rfl
  | b :: bs => by
    rw [List.length_cons, List.range_succ_eq_map, List.all_cons, List.all_map, List.all_cons, ← all_range bs]
    all_goals rfl
section
variable {X : Cx}
def rAny (K : PySem.W.Frag) : List V → Hp → VK → Prop := fun vs H Q => ∃ (a : Addr) (bs : List Bool), vs = [V.ref a] ∧ SqL K H a (bs.map V.bl) ∧ Q (.bl (bs.any id)) H
def rAll (K : PySem.W.Frag) : List V → Hp → VK → Prop := fun vs H Q => ∃ (a : Addr) (bs : List Bool), vs = [V.ref a] ∧ SqL K H a (bs.map V.bl) ∧ Q (.bl (bs.all id)) H
theorem cr_any (hc : X.calm = true) : CallR X (.builtin "any") (rAny X.K) := by
  intro pins s σ H vs us Q I r h
  obtain ⟨a, bs, rfl, hs, q⟩ := h
  obtain ⟨its, rv, hl, _⟩ := I.list hs
  rw [Vals.ref1 r]
  have hb := rv.bls
  refine call_any_walk (iter_any hl.isList fun s₂ e2 st hne => ?_)
  subst e2
  refine ⟨_, _, _, _, _, _, _, rfl, Walks.list (A := X.A.in1) (I.ok.hd hc) _ a hne its.toArray, st, truth_bools hb, fun h' tk hk => ?_⟩
  refine ⟨.bl _, H, I.kept fun b o eo => hk b o (fun hmem => ?_) (Heap.get?_push_of_some _ eo), ?_, q⟩
  · rcases List.mem_cons.mp hmem with e1 | hmem
    · exact absurd (e1 ▸ Heap.lt_size eo) (Nat.lt_irrefl _)
    · cases hmem
  · show Value.bool _ = Value.bool _
    rw [← any_range, hb, List.size_toArray, List.length_map]
theorem cr_all (hc : X.calm = true) : CallR X (.builtin "all") (rAll X.K) := by
  intro pins s σ H vs us Q I r h
  obtain ⟨a, bs, rfl, hs, q⟩ := h
  obtain ⟨its, rv, hl, _⟩ := I.list hs
  rw [Vals.ref1 r]
  have hb := rv.bls
  refine call_all_walk (iter_any hl.isList fun s₂ e2 st hne => ?_)
  subst e2
  refine ⟨_, _, _, _, _, _, _, rfl, Walks.list (A := X.A.in1) (I.ok.hd hc) _ a hne its.toArray, st, truth_bools hb, fun h' tk hk => ?_⟩
  refine ⟨.bl _, H, I.kept fun b o eo => hk b o (fun hmem => ?_) (Heap.get?_push_of_some _ eo), ?_, q⟩
  · rcases List.mem_cons.mp hmem with e1 | hmem
    · exact absurd (e1 ▸ Heap.lt_size eo) (Nat.lt_irrefl _)
    · cases hmem
  · show Value.bool _ = Value.bool _
    rw [← all_range, hb, List.size_toArray, List.length_map]
end
mutual
inductive Dp (K : PySem.W.Frag) (H : Hp) : V → PyData → Prop
  | non : Dp K H .non .none
  | bl (b : Bool) : Dp K H (.bl b) (.bool b)
  | int (i : Int) : Dp K H (.int i) (.int i)
  | str (x : Str) : Dp K H (.str x) (.str x)
  | lst {a : Addr} {xs : List V} {ds : List PyData} : SqL K H a xs → DpAll K H xs ds → Dp K H (.ref a) (.list ds)
  | tup {a : Addr} {xs : List V} {ds : List PyData} : SqT K H a xs → DpAll K H xs ds → Dp K H (.ref a) (.tuple ds)
inductive DpAll (K : PySem.W.Frag) (H : Hp) : List V → List PyData → Prop
  | nil : DpAll K H [] []
  | cons {v : V} {vs : List V} {d : PyData} {ds : List PyData} : Dp K H v d → DpAll K H vs ds → DpAll K H (v :: vs) (d :: ds)
end
section
variable {X : Cx} {pins : List (Addr × Obj)} {σ : St} {H : Hp} {s : Shared}
mutual
theorem Dp.reads (I : Inv X pins σ H s) : ∀ (d : PyData) (v : V) (u : Value), Dp X.K H v d → RelV v u → ∃ as, Reads s.heap u d as
  | .none, _, _, h, r => by
    cases h
    cases r
    exact ⟨_, Reads.none⟩
  | .bool b, _, _, h, r => by
    cases h
    cases r
    exact ⟨_, Reads.bool b⟩
  | .int i, _, _, h, r => by
    cases h
    obtain ⟨t, rfl⟩ := r
    exact ⟨_, Reads.int i t⟩
  | .str x, _, _, h, r => by
    cases h
    obtain ⟨t, rfl⟩ := r
    exact ⟨_, Reads.str x t⟩
  | .list ds, _, _, h, r => by
    cases h with
    | lst hs ha =>
      cases r
      obtain ⟨its, rv, ⟨o, n, ho, hc, _, hd⟩, _⟩ := I.list hs
      obtain ⟨as, hr⟩ := Dp.readsAll I ds _ its ha rv
      exact ⟨_, Reads.list ho hc hd hr⟩
  | .tuple ds, _, _, h, r => by
    cases h with
    | tup hs ha =>
      cases r
      obtain ⟨its, rv, ⟨o, ho, hc, n, hd⟩, _⟩ := I.tuple hs
      obtain ⟨as, hr⟩ := Dp.readsAll I ds _ its ha rv
      exact ⟨_, Reads.tuple ho hc hd hr⟩
  | .dict _, _, _, h, _ => by cases h
theorem Dp.readsAll (I : Inv X pins σ H s) : ∀ (ds : List PyData) (vs : List V) (us : List Value), DpAll X.K H vs ds → Vals vs us → ∃ as, ReadsAll s.heap us ds as
  | [], _, _, h, r => by
    cases h
    cases r
    exact ⟨_, ReadsAll.nil⟩
  | d :: ds, _, _, h, r => by
    cases h with
    | cons h1 h2 =>
      cases r with
      | cons r1 r2 =>
        obtain ⟨as, q1⟩ := Dp.reads I d _ _ h1 r1
        obtain ⟨bs, q2⟩ := Dp.readsAll I ds _ _ h2 r2
        exact ⟨_, ReadsAll.cons q1 q2⟩
end
end
section
variable {X : Cx}
def rEqD (K : PySem.W.Frag) : R2 := fun x y H Q => ∃ d e, Dp K H x d ∧ Dp K H y e ∧ SeqAt.shaped d = true ∧ SeqAt.shaped e = true ∧ Q (.bl (PyData.eqv d e)) H
def rNeD (K : PySem.W.Frag) : R2 := fun x y H Q => ∃ d e, Dp K H x d ∧ Dp K H y e ∧ SeqAt.shaped d = true ∧ SeqAt.shaped e = true ∧ Q (.bl (!PyData.eqv d e)) H
theorem op_eqD (hu : X.A.units + 64 < cLine) : OpR X (compareOp .Eq) (rEqD X.K) := by
  intro pins s σ H x y v u Q I rx ry h
  obtain ⟨d, e, hd, he, sd, se, q⟩ := h
  obtain ⟨as, r1⟩ := Dp.reads I d x v hd rx
  obtain ⟨bs, r2⟩ := Dp.reads I e y u he ry
  exact SeqAt.compareEq_shaped r1 r2 sd se hu ⟨.bl _, H, I, rfl, q⟩
theorem op_neD (hu : X.A.units + 64 < cLine) : OpR X (compareOp .NotEq) (rNeD X.K) := by
  intro pins s σ H x y v u Q I rx ry h
  obtain ⟨d, e, hd, he, sd, se, q⟩ := h
  obtain ⟨as, r1⟩ := Dp.reads I d x v hd rx
  obtain ⟨bs, r2⟩ := Dp.reads I e y u he ry
  exact SeqAt.compareNe_shaped r1 r2 sd se hu ⟨.bl _, H, I, rfl, q⟩
end
end L2
namespace L2
open PySem PySem.Spec PyProof.Rows
abbrev CellAt (h : Heap) (c : Addr) (v : Option Value) : Prop := h.IsCell c v
def relS (scope sc : Scope) : Scope :=
  { scope with names := scope.names.map fun (n, k) => if (k == .free && sc.kind == .function && sc.names.lookup n == some .cell) then (n, .cell) else (n, k) }
def cloFrom (cells : List (Str × Addr)) : List (Str × NameKind) → List (Str × Addr) → List (Str × Addr)
  | [], acc => acc
  | (n, k) :: r, acc => if k == .free then cloFrom cells r ((n, (cells.lookup n).getD 0) :: acc) else cloFrom cells r acc
theorem closure_loop (env : Env) (f : Str × NameKind → List (Str × Addr) → Sem (ForInStep (List (Str × Addr))))
    (hf : ∀ n k c, f (n, k) c = if k == .free then (do let a ← cellOf env n; pure (.yield ((n, a) :: c))) else pure (.yield c)) :
    ∀ (names : List (Str × NameKind)) (acc : List (Str × Addr)), (∀ y ∈ names, y.2 = .free → ∃ c, env.cells.lookup y.1 = some c) → forIn names acc f = pure (cloFrom env.cells names acc)
  | [], acc, _ => by rw [List.forIn_nil]; rfl
  | (n, k) :: r, acc, h => by
    rw [List.forIn_cons, hf]
    have ih := fun acc => closure_loop env f hf r acc fun y hy => h y (List.mem_cons_of_mem _ hy)
    unfold cloFrom
    by_cases hk : (k == NameKind.free) = true
    · rw [if_pos hk, if_pos hk]
      obtain ⟨c, hc⟩ := h (n, k) List.mem_cons_self (by simpa using hk)
      have e : cellOf env n = pure c := by unfold cellOf; rw [hc]
      rw [e]
      have e2 : (env.cells.lookup n).getD 0 = c := by rw [hc]; rfl
      rw [e2]
      exact ih _
    · rw [if_neg hk, if_neg hk]
      exact ih _
theorem closure_ok {scope : Scope} {env : Env} (h : ∀ y ∈ scope.names, y.2 = .free → ∃ c, env.cells.lookup y.1 = some c) : closureFor scope env = pure (cloFrom env.cells scope.names []) := by
  simp only [closureFor]
  rw [closure_loop env _ (fun n k c => rfl) scope.names [] h]
  rfl
theorem mem_lookup {α : Type} : ∀ {l : List (Str × α)} {n : Str} {c : α}, (n, c) ∈ l → ∃ c', l.lookup n = some c'
  | (k, v) :: r, n, c, h => by
    rw [List.lookup_cons]
    cases hb : n == k with
    | true => exact ⟨_, rfl⟩
    | false =>
      rcases List.mem_cons.mp h with e | h
      · cases e; simp at hb
      · exact mem_lookup h
theorem cloFrom_mem {cells : List (Str × Addr)} : ∀ {names : List (Str × NameKind)} {acc : List (Str × Addr)} {n : Str} {c : Addr}, (n, c) ∈ cloFrom cells names acc → (n, c) ∈ acc ∨ ((n, .free) ∈ names ∧ c = (cells.lookup n).getD 0)
  | [], _, _, _, h => .inl h
  | (m, k) :: r, acc, n, c, h => by
    unfold cloFrom at h
    split at h
    · rename_i hk
      have hk : k = .free := by simpa using hk
      rcases cloFrom_mem h with h | ⟨h1, h2⟩
      · rcases List.mem_cons.mp h with e | h
        · cases e; exact .inr ⟨hk ▸ List.mem_cons_self, rfl⟩
        · exact .inl h
      · exact .inr ⟨List.mem_cons_of_mem _ h1, h2⟩
    · rcases cloFrom_mem h with h | ⟨h1, h2⟩
      · exact .inl h
      · exact .inr ⟨List.mem_cons_of_mem _ h1, h2⟩
theorem cloFrom_acc {cells : List (Str × Addr)} : ∀ {names : List (Str × NameKind)} {acc : List (Str × Addr)} {p : Str × Addr}, p ∈ acc → p ∈ cloFrom cells names acc
  | [], _, _, h => h
  | (m, k) :: r, acc, p, h => by
    unfold cloFrom
    split
    · exact cloFrom_acc (List.mem_cons_of_mem _ h)
    · exact cloFrom_acc h
theorem cloFrom_has {cells : List (Str × Addr)} : ∀ {names : List (Str × NameKind)} {acc : List (Str × Addr)} {n : Str}, (n, .free) ∈ names → (n, (cells.lookup n).getD 0) ∈ cloFrom cells names acc
  | (m, k) :: r, acc, n, h => by
    unfold cloFrom
    rcases List.mem_cons.mp h with e | h
    · cases e
      exact cloFrom_acc List.mem_cons_self
    · split
      · exact cloFrom_has h
      · exact cloFrom_has h
theorem cells_mem : ∀ {names : List (Str × NameKind)} {h : Heap} {acc : List (Str × Addr)} {x : Str} {c : Addr}, (x, c) ∈ cellsFrom h.objs.size names acc →
    (x, c) ∈ acc ∨ ((x, .cell) ∈ names ∧ h.objs.size ≤ c ∧ CellAt (pushCells h names) c none)
  | [], _, _, _, _, h => .inl h
  | (n, k) :: r, h, acc, x, c, hm => by
    unfold cellsFrom at hm
    unfold pushCells
    split at hm
    · rename_i hk
      rw [if_pos hk]
      have hk : k = .cell := by simpa using hk
      rw [← Heap.size_push h { cls := .type "cell", data := .cell none }] at hm
      rcases cells_mem hm with hm | ⟨h1, h2, h3⟩
      · rcases List.mem_cons.mp hm with e | hm
        · cases e
          exact .inr ⟨hk ▸ List.mem_cons_self, Nat.le_refl _, _, pushCells_keeps r _ _ _ (Heap.get?_push_size _ rfl), rfl⟩
        · exact .inl hm
      · rw [Heap.size_push] at h2
        exact .inr ⟨List.mem_cons_of_mem _ h1, Nat.le_of_succ_le h2, h3⟩
    · rename_i hk
      rw [if_neg hk]
      rcases cells_mem hm with hm | ⟨h1, h2, h3⟩
      · exact .inl hm
      · exact .inr ⟨List.mem_cons_of_mem _ h1, h2, h3⟩
theorem cells_acc : ∀ {names : List (Str × NameKind)} {n : Nat} {acc : List (Str × Addr)} {p : Str × Addr}, p ∈ acc → p ∈ cellsFrom n names acc
  | [], _, _, _, h => h
  | (m, k) :: r, n, acc, p, h => by
    unfold cellsFrom
    split
    · exact cells_acc (List.mem_cons_of_mem _ h)
    · exact cells_acc h
theorem cells_has : ∀ {names : List (Str × NameKind)} {n : Nat} {acc : List (Str × Addr)} {x : Str}, (x, .cell) ∈ names → ∃ c, (x, c) ∈ cellsFrom n names acc
  | (m, k) :: r, n, acc, x, h => by
    unfold cellsFrom
    rcases List.mem_cons.mp h with e | h
    · cases e
      exact ⟨n, cells_acc List.mem_cons_self⟩
    · split
      · exact cells_has h
      · exact cells_has h
theorem cells_inj : ∀ {names : List (Str × NameKind)} {h : Heap} {acc : List (Str × Addr)} {x y : Str} {c : Addr}, (∀ p ∈ acc, p.2 < h.objs.size) → (∀ x y c, (x, c) ∈ acc → (y, c) ∈ acc → x = y) →
    (x, c) ∈ cellsFrom h.objs.size names acc → (y, c) ∈ cellsFrom h.objs.size names acc → x = y
  | [], _, _, _, _, _, _, hi, h1, h2 => hi _ _ _ h1 h2
  | (n, k) :: r, h, acc, x, y, c, hl, hi, h1, h2 => by
    unfold cellsFrom at h1 h2
    split at h1
    · rename_i hk
      rw [if_pos hk] at h2
      rw [← Heap.size_push h { cls := .type "cell", data := .cell none }] at h1 h2
      refine cells_inj (h := h.push _) (fun p hp => ?_) (fun x y c a b => ?_) h1 h2
      · rw [Heap.size_push]
        rcases List.mem_cons.mp hp with rfl | hp
        · exact Nat.lt_succ_self _
        · exact Nat.lt_succ_of_lt (hl p hp)
      · rcases List.mem_cons.mp a with e | a <;> rcases List.mem_cons.mp b with e' | b
        · cases e; cases e'; rfl
        · cases e; exact absurd (hl _ b) (Nat.lt_irrefl _)
        · cases e'; exact absurd (hl _ a) (Nat.lt_irrefl _)
        · exact hi _ _ _ a b
    · rename_i hk
      rw [if_neg hk] at h2
      exact cells_inj hl hi h1 h2
theorem newEnv_comp {M : Model} {A : Around} {E : Value → Shared → Prop} {s : Shared} {scope : Scope} {globals : Addr} {closure : List (Str × Addr)} {qual : Str} {func : Option Addr} {code : Value} {around : Env} {builtins : Addr} {Q : Env → Shared → Prop}
    (h : Q (newEnv scope s.heap.objs.size globals (cellsFrom (s.heap.objs.size + 1) scope.names closure) qual func code (some around) builtins)
      { s with heap := pushCells (s.heap.push { cls := .type "dict", data := .dict #[] }) scope.names }) :
    wpAny M A (newFunctionEnv scope globals closure [] qual func code (some around) builtins) Q E s := by
  simp only [newFunctionEnv, Option.isSome_some, if_true]
  refine wpAny_bind (wpAny_alloc ?_)
  refine wpAny_bind (wpAny_layCells _ (fun n k c => rfl) scope.names closure _ _ ?_)
  rw [show ({ s with heap := s.heap.push { cls := .type "dict", data := .dict #[] } } : Shared).heap.objs.size = s.heap.objs.size + 1 from Heap.size_push ..]
  rw [List.forIn_nil]
  exact wpAny_bind (wpAny_pure (wpAny_pure h))
theorem lookup_relS {sc : Scope} : ∀ {names : List (Str × NameKind)} {x : Str} {k : NameKind},
    (names.map fun (n, k) => if (k == NameKind.free && sc.kind == .function && sc.names.lookup n == some .cell) then (n, NameKind.cell) else (n, k)).lookup x = some k →
    ∃ k', names.lookup x = some k' ∧ (k = k' ∨ (k' = .free ∧ k = .cell))
  | [], _, _, h => by simp at h
  | (n, k₀) :: r, x, k, h => by
    have ih := @lookup_relS sc r x k
    have h' : List.lookup x ((if (k₀ == NameKind.free && sc.kind == .function && sc.names.lookup n == some .cell) = true then (n, NameKind.cell) else (n, k₀)) :: (r.map _)) = some k := h
    cases hx : x == n with
    | true =>
      simp only [List.lookup_cons, hx]
      by_cases hc : (k₀ == NameKind.free && sc.kind == .function && sc.names.lookup n == some .cell) = true
      · rw [if_pos hc] at h'
        simp only [List.lookup_cons, hx] at h'
        cases h'
        simp only [Bool.and_eq_true, beq_iff_eq] at hc
        exact ⟨k₀, rfl, .inr ⟨hc.1.1, rfl⟩⟩
      · rw [if_neg hc] at h'
        simp only [List.lookup_cons, hx] at h'
        cases h'
        exact ⟨_, rfl, .inl rfl⟩
    | false =>
      simp only [List.lookup_cons, hx]
      by_cases hc : (k₀ == NameKind.free && sc.kind == .function && sc.names.lookup n == some .cell) = true
      · rw [if_pos hc] at h'
        simp only [List.lookup_cons, hx] at h'
        exact ih h'
      · rw [if_neg hc] at h'
        simp only [List.lookup_cons, hx] at h'
        exact ih h'
structure BlkOk (N : List Str) (sc scope : Scope) (own : List (Str × Nat)) : Prop where
  kind : scope.kind = .function
  uniq : ∀ y ∈ scope.names, scope.names.lookup y.1 = some y.2
  ix : ∀ p ∈ own, N[p.2]? = some p.1
  free : ∀ y ∈ scope.names, y.2 = .free → sc.names.lookup y.1 = some .cell ∨ sc.names.lookup y.1 = some .free
  own : ∀ y ∈ scope.names, y.2 = .local ∨ y.2 = .cell → y.1 ∈ own.map (·.1) ∨ y.1 ∉ N
def wipe (σ : St) : List Nat → St
  | [] => σ
  | v :: vs => (wipe σ vs).set v none
theorem wipe_length (σ : St) : ∀ vs : List Nat, (wipe σ vs).length = σ.length
  | [] => rfl
  | v :: vs => by unfold wipe; rw [List.length_set, wipe_length σ vs]
theorem wipe_some {σ : St} {i : Nat} {x : V} : ∀ {vs : List Nat}, (wipe σ vs)[i]? = some (some x) → σ[i]? = some (some x) ∧ i ∉ vs
  | [], h => ⟨h, by simp⟩
  | v :: vs, h => by
    unfold wipe at h
    by_cases hi : v = i
    · subst hi
      by_cases hv : v < (wipe σ vs).length
      · rw [List.getElem?_set_self hv] at h; cases h
      · rw [List.getElem?_eq_none (by simpa using hv)] at h; cases h
    · rw [List.getElem?_set_ne hi] at h
      obtain ⟨h1, h2⟩ := wipe_some h
      exact ⟨h1, by simp only [List.mem_cons, not_or]; exact ⟨fun e => hi e.symm, h2⟩⟩
abbrev Cx.blk (X : Cx) (s : Shared) (H : Hp) (scope : Scope) (cenv : Env) (fp : List Addr) : Cx := { X with s_0 := s, H_0 := H, env := cenv, outer := X.stack, ex := fp, fn := fun x => scope.names.lookup x == some .cell, pn := [], xe := fun _ _ => False }
section
variable {X : Cx} {pins : List (Addr × Obj)} {σ : St} {H : Hp} {s : Shared}
theorem block_start {scope : Scope} {own : List (Str × Nat)} {fp : List Addr} (I : Inv X pins σ H s) (ok : BlkOk X.N X.env.scope scope own) (hN : X.N.Nodup) (hfp : ∀ b ∈ fp, FpOk X pins H b ∧ b < s.heap.objs.size) :
    Inv (X.blk s H scope (compEnvC scope (cellsFrom (s.heap.objs.size + 1) scope.names (cloFrom X.env.cells scope.names [])) s.heap.objs.size X.env) fp) [] (wipe σ (own.map (·.2))) H { s with heap := pushCells (s.heap.push { cls := .type "dict", data := .dict #[] }) scope.names } := by
  have hfree : ∀ y ∈ scope.names, y.2 = .free → ∃ c, X.env.cells.lookup y.1 = some c := fun y hy e => by
    rcases ok.free y hy e with k | k
    · exact I.ok.has _ (.inl k)
    · exact I.ok.has _ (.inr k)
  generalize hcenv : compEnvC scope (cellsFrom (s.heap.objs.size + 1) scope.names (cloFrom X.env.cells scope.names [])) s.heap.objs.size X.env = cenv
  have kp : ∀ b o, s.heap.get? b = some o → (pushCells (s.heap.push { cls := .type "dict", data := .dict #[] }) scope.names).get? b = some o := fun b o e => pushCells_keeps _ _ _ _ (Heap.get?_push_of_some _ e)
  have hL : cenv.locals = s.heap.objs.size := by rw [← hcenv]; rfl
  have hcl : cenv.cells = cellsFrom (s.heap.objs.size + 1) scope.names (cloFrom X.env.cells scope.names []) := by rw [← hcenv]; rfl
  have hsc : cenv.scope = relS scope X.env.scope := by rw [← hcenv]; rfl
  rw [← Heap.size_push s.heap { cls := .type "dict", data := .dict #[] }] at hcl
  have cm : ∀ {y c}, (y, c) ∈ cloFrom X.env.cells scope.names [] → X.env.cells.lookup y = some c ∧ c < s.heap.objs.size := fun {y c} hm => by
    rcases cloFrom_mem hm with hm | ⟨h1, rfl⟩
    · cases hm
    · obtain ⟨c, hc⟩ := hfree _ h1 rfl
      rw [hc]
      obtain ⟨w, z⟩ := I.cell _ _ hc
      exact ⟨rfl, z.lt⟩
  have mem : ∀ {y c}, cenv.cells.lookup y = some c → (X.env.cells.lookup y = some c ∧ c < s.heap.objs.size) ∨ (s.heap.objs.size + 1 ≤ c ∧ CellAt (pushCells (s.heap.push { cls := .type "dict", data := .dict #[] }) scope.names) c none) := fun {y c} e => by
    rw [hcl] at e
    rcases cells_mem (PySem.mem_of_lookup e) with hm | ⟨_, h2, h3⟩
    · exact .inl (cm hm)
    · rw [Heap.size_push] at h2; exact .inr ⟨h2, h3⟩
  have look : ∀ {y}, scope.names.lookup y = some .free → ∃ c, cenv.cells.lookup y = some c ∧ X.env.cells.lookup y = some c := fun {y} hl => by
    have hy : (y, NameKind.free) ∈ scope.names := PySem.mem_of_lookup hl
    obtain ⟨c', e'⟩ := mem_lookup (cells_acc (names := scope.names) (n := (s.heap.push { cls := .type "dict", data := .dict #[] }).objs.size) (cloFrom_has (cells := X.env.cells) (acc := []) hy))
    rw [← hcl] at e'
    refine ⟨c', e', ?_⟩
    rw [hcl] at e'
    rcases cells_mem (PySem.mem_of_lookup e') with hm | ⟨h1, _, _⟩
    · exact (cm hm).1
    · have := ok.uniq _ h1
      rw [hl] at this; cases this
  have okB : (X.blk s H scope cenv fp).Ok := by
    refine ⟨I.ok.mod, by show cenv.scope.kind = _; rw [hsc]; exact ok.kind, by show cenv.globals = _; rw [← hcenv]; exact I.ok.glob, by show cenv.builtins = _; rw [← hcenv]; exact I.ok.blt, by show s.heap.objs.size ≤ cenv.locals; rw [hL]; exact Nat.le_refl _,
      fun y z c e1 e2 => ?_, fun y hy => ?_, fun y c z e => ?_, I.ok.hd, I.ok.frames, .inl rfl, fun b hb => ⟨?_, fun y c e z => ?_⟩, I.bs, Nat.le_trans I.ok.bsz I.sz, fun b o e hb => ?_, fun b hb z => ?_, I.stack, I.stkFree⟩
    · have e1 : cenv.cells.lookup y = some c := e1
      have e2 : cenv.cells.lookup z = some c := e2
      rw [hcl] at e1 e2
      refine cells_inj (fun p hp => ?_) (fun y z c a b => I.ok.inj y z c (cm a).1 (cm b).1) (PySem.mem_of_lookup e1) (PySem.mem_of_lookup e2)
      rw [Heap.size_push]
      exact Nat.lt_succ_of_lt (cm (y := p.1) (c := p.2) hp).2
    · show ∃ c, cenv.cells.lookup y = some c
      have key : ∀ k, cenv.kindOf y = some k → (k = .cell ∨ k = .free) → ∃ c, cenv.cells.lookup y = some c := fun k hk hk' => by
        unfold Env.kindOf at hk
        rw [hsc] at hk
        obtain ⟨k', e, r⟩ := lookup_relS hk
        have : k' = .cell ∨ k' = .free := by
          rcases r with rfl | ⟨rfl, _⟩
          · exact hk'
          · exact .inr rfl
        rcases this with rfl | rfl
        · obtain ⟨c, hm⟩ := cells_has (n := (s.heap.push { cls := .type "dict", data := .dict #[] }).objs.size) (acc := cloFrom X.env.cells scope.names []) (PySem.mem_of_lookup e)
          obtain ⟨c', e'⟩ := mem_lookup hm
          exact ⟨c', by rw [hcl]; exact e'⟩
        · obtain ⟨c, h1, _⟩ := look e
          exact ⟨c, h1⟩
      rcases hy with hy | hy
      · exact key _ hy (.inl rfl)
      · exact key _ hy (.inr rfl)
    · have z : (scope.names.lookup y == some NameKind.cell) = true := z
      have z : scope.names.lookup y = some .cell := by simpa using z
      have e : cenv.cells.lookup y = some c := e
      rw [hcl] at e
      rcases cells_mem (PySem.mem_of_lookup e) with hm | ⟨_, h2, _⟩
      · rcases cloFrom_mem hm with hm | ⟨h1, _⟩
        · cases hm
        · have q := ok.uniq _ h1
          rw [z] at q; cases q
      · rw [Heap.size_push] at h2
        exact Nat.le_of_succ_le h2
    · show b ≠ cenv.locals
      rw [hL]; exact Nat.ne_of_lt (hfp b hb).2
    · have e : cenv.cells.lookup y = some c := e
      rcases mem e with ⟨h1, _⟩ | ⟨h1, _⟩
      · exact (hfp b hb).1.2.2.2.2.1 y c h1 z
      · have h2 : s.heap.objs.size + 1 ≤ b := by rw [← z]; exact h1
        exact absurd (Nat.lt_of_lt_of_le (hfp b hb).2 (Nat.le_of_succ_le h2)) (Nat.lt_irrefl _)
    · rcases (hfp b hb).1.2.2.2.1 with z | z
      · exact I.ok.noex b o e z
      · exact absurd (Nat.lt_of_lt_of_le (Heap.lt_size e) (Nat.le_trans I.ok.bsz z)) (Nat.lt_irrefl _)
    · rcases List.mem_cons.mp (I.stkSub b z) with z | z
      · exact (hfp b hb).1.2.1 z
      · exact (hfp b hb).1.2.2.1 z
  refine ⟨okB, rfl, I.bare, Un.kept kp, ⟨fun _ => none, ?_, fun i y av e1 e2 e3 => ?_⟩, fun y c e => ?_, ?_, fun y c e => ?_, fun p hp => ?_, I.hok.kept kp, by rw [wipe_length]; exact I.len⟩
  · show Heap.Ns _ cenv.locals _
    rw [hL]
    exact Heap.Ns.keeps (Heap.Ns.new ..) fun b o e => pushCells_keeps _ _ _ _ e
  · obtain ⟨e2, hne⟩ := wipe_some e2
    have hfr : scope.names.lookup y = some .free ∧ (cenv.kindOf y = some .cell ∨ cenv.kindOf y = some .free) := by
      have key : ∀ k, cenv.scope.names.lookup y = some k → k = .local ∨ k = .cell ∨ k = .free → scope.names.lookup y = some .free ∧ (cenv.kindOf y = some .cell ∨ cenv.kindOf y = some .free) := fun k hk hk' => by
        have hk0 := hk
        rw [hsc] at hk
        obtain ⟨k', e, r⟩ := lookup_relS hk
        have no : ¬ (k' = .local ∨ k' = .cell) := fun hh => by
          rcases ok.own _ (PySem.mem_of_lookup e) hh with e' | e'
          · obtain ⟨p, hp, hpy⟩ := List.mem_map.mp e'
            have e3 := ok.ix p hp
            have : p.1 = y := hpy
            rw [this] at e3
            exact hne (List.mem_map.mpr ⟨p, hp, nodup_ix hN e3 e1⟩)
          · exact e' (List.mem_of_getElem? e1)
        rcases r with rfl | ⟨rfl, rfl⟩
        · rcases hk' with rfl | rfl | rfl
          · exact absurd (.inl rfl) no
          · exact absurd (.inr rfl) no
          · exact ⟨e, .inr hk0⟩
        · exact ⟨e, .inl hk0⟩
      have e3 : Vis cenv.scope y := e3
      rcases e3 with e3 | e3 | e3
      · exact key _ e3 (.inl rfl)
      · exact key _ e3 (.inr (.inl rfl))
      · exact key _ e3 (.inr (.inr rfl))
    obtain ⟨m, hn, hl⟩ := I.loc
    have hvis : Vis X.env.scope y := (ok.free _ (PySem.mem_of_lookup hfr.1) rfl).elim (fun k => .inr (.inl k)) (fun k => .inr (.inr k))
    obtain ⟨w, r, q⟩ := hl i y av e1 e2 hvis
    refine ⟨w, r, .inr ⟨hfr.2, ?_⟩⟩
    obtain ⟨c, h1, h2⟩ := look hfr.1
    rcases q with ⟨k, _⟩ | ⟨_, c', e', z⟩
    · have k : X.env.scope.names.lookup y = some .local := k
      rcases ok.free _ (PySem.mem_of_lookup hfr.1) rfl with k' | k' <;> rw [show X.env.scope.names.lookup y = _ from k'] at k <;> cases k
    · rw [h2] at e'; cases e'
      exact ⟨c, h1, z.keeps kp⟩
  · have e : cenv.cells.lookup y = some c := e
    rcases mem e with ⟨h1, _⟩ | ⟨_, z⟩
    · obtain ⟨w, z⟩ := I.cell y c h1
      exact ⟨w, z.keeps kp⟩
    · exact ⟨_, z⟩
  · show H cenv.locals = none
    rw [hL]; exact I.hok.fresh (Nat.le_refl _)
  · have e : cenv.cells.lookup y = some c := e
    rcases mem e with ⟨h1, _⟩ | ⟨h1, _⟩
    · exact I.freeC y c h1
    · exact I.hok.fresh (Nat.le_of_succ_le h1)
  · exact absurd (show p ∈ ([] : List (Addr × Obj)) ++ [] from hp) (by simp)
theorem app_ok {E : Value → Shared → Prop} {D : Addr} {xs : List V} {y : V} {v : Value} {Q : Value → Shared → Prop} (I : Inv X pins σ H s) (hD : H D = some (.lst xs)) (hz : xs.length < sizeLine) (r : RelV y v)
    (h : ∀ s', Inv X pins σ (upd H D (.lst (xs ++ [y]))) s' → Q .none s') : wpAny (model X.prog X.w) X.A (call (.builtin "list.append") [.ref D, v]) Q E s := by
  obtain ⟨hz', its, n, ri, e⟩ := I.hok D _ hD
  have hl := ri.length
  refine append_at (hsz := by rw [List.size_toArray]; omega) e fun h' sb ho' => ?_
  refine h { s with heap := h' } (I.write (t' := s.toks) (by rw [hD]; trivial) (.inl rfl) (fun b u hb q => (sb.2 b hb).trans q) ⟨_, ho'⟩ ⟨by rw [List.length_append]; exact hz, its ++ [v], n + 1, ri.append (.cons r .nil), ?_⟩)
  rw [ho']
  simp
def PTs (X : Cx) (ifs : List Expr) (t : TT) : Prop :=
  ∀ (pins : List (Addr × Obj)) (s : Shared) (σ : St) (H : Hp) (Q : Bool → Hp → Prop), Inv X pins σ H s → t σ H Q →
    wpAny (model X.prog X.w) X.A (forIn ifs true fun c r => if r = true then do let ok ← isTrue c X.env (eval c X.env); pure (ForInStep.yield ok) else pure (ForInStep.yield r)) (TP X pins σ Q) X.xe s
def tYes : TT := fun _ H Q => Q true H
theorem pts_nil : PTs X [] tYes := fun _ _ _ H _ I h => wpAny_tests_nil ⟨H, I, h⟩
end
theorem thnF {α : Type} {t : Sem α} {Q Q' : α → Shared → Prop} {M : Model} {A : Around} {E : Value → Shared → Prop} {s : Shared} (h : wpAny M A t Q (fun _ _ => False) s) (hQ : ∀ a s, Q a s → Q' a s) : wpAny M A t Q' E s := wpAny_mono h hQ fun _ _ z => False.elim z
theorem compLoop_any {prog : Program} {w : World} {A : Around} {R : Result → Shared → Prop} {s : Shared} {elt target iter : Expr} {ifs : List Expr} {scope : Scope} {pos : Pos} {it acc : Value} {env : Env} (I : Nat → Shared → Prop)
    (turn : ∀ n s, I n s → wpAny (model prog w) A (pyNext it) (fun r s₁ => match r with
      | none => R (.ok .next) s₁
      | some v => wpAny (model prog w) A (letOwnedTupleGo target it v) (fun _ s₁' => wpAny (model prog w) A (assign target env v) (fun _ s₂ =>
          wpAny (model prog w) A (forIn ifs true fun c r => if r = true then do let ok ← isTrue c env (eval c env); pure (ForInStep.yield ok) else pure (ForInStep.yield r)) (fun ok s₃ =>
            if ok = true then wpAny (model prog w) A (eval elt env) (fun x s₄ =>
              wpAny (model prog w) A (call (.builtin "list.append") [acc, x]) (fun _ s₅ => ∃ m, m < n ∧ I m s₅) (notedBy (model prog w) A env fun e s' => R (.error e) s') s₄) (notedBy (model prog w) A env fun e s' => R (.error e) s') s₃
            else ∃ m, m < n ∧ I m s₃) (notedBy (model prog w) A env fun e s' => R (.error e) s') s₂) (notedBy (model prog w) A env fun e s' => R (.error e) s') s₁') (notedBy (model prog w) A env fun e s' => R (.error e) s') s₁) (notedBy (model prog w) A env fun e s' => R (.error e) s') s)
    (n : Nat) (h : I n s) :
    codeAny (model prog w) A (.compLoop (.ListComp elt [⟨target, iter, ifs, 0⟩] scope pos) 0 it acc env) R s := by
  refine codeAny_loop rfl I (fun n s hI => ?_) n h
  show wpAny _ A ((compTurn (.ListComp elt [⟨target, iter, ifs, 0⟩] scope pos) 0 it acc env).onRaise (fun x => do noteFrame x env; theTreesLotGoes x)) _ _ s
  refine wpAny_noted ?_
  rw [compTurn_list]
  refine wpAny_bind (wpAny_standAt (wpAny_bind (wpAny_mono (turn n s hI) (fun r s₁ h₁ => ?_) fun _ _ h' => h')))
  cases r with
  | none => exact wpAny_pure h₁
  | some v =>
    refine wpAny_bind (wpAny_mono h₁ (fun _ s₁' h₁' => ?_) fun _ _ h' => h')
    refine wpAny_bind (wpAny_mono h₁' (fun _ s₂ h₂ => wpAny_bind (wpAny_mono h₂ (fun ok s₃ h₃ => ?_) fun _ _ h' => h')) fun _ _ h' => h')
    cases ok with
    | false => exact wpAny_pure ⟨rfl, h₃⟩
    | true =>
      exact wpAny_bind (wpAny_bind (wpAny_mono h₃ (fun x s₄ h₄ => wpAny_bind (wpAny_mono h₄ (fun _ s₅ h₅ => wpAny_pure (wpAny_pure ⟨rfl, h₅⟩)) fun _ _ h' => h')) fun _ _ h' => h'))
section
variable {X : Cx}
def tLc (wi : TI) (g : TG) (tt : TT) (te : TE) (vs : List Nat) : TE := fun σ H Q => wi σ H fun J H1 => ∀ D, H1 D = none → ∃ W : Nat → Nat → Hp → Prop, (∃ m, W 0 m (upd H1 D (.lst []))) ∧ ∀ i m H, W i m H →
  (J.stop i H ∧ Q (.ref D) H) ∨ (J.go i H ∧ ∃ Nx : Hp → Prop, (∀ H', Nx H' → ∃ m', m' < m ∧ W (i + 1) m' H') ∧ ∀ x H', J.yld i H x H' → g x (wipe σ vs) H' fun σ2 H2 => wipe σ2 vs = wipe σ vs ∧ tt σ2 H2 fun b H3 =>
    if b = true then te σ2 H3 fun y H4 => ∃ acc, H4 D = some (.lst acc) ∧ acc.length < sizeLine ∧ Nx (upd H4 D (.lst (acc ++ [y]))) else Nx H3)
theorem lc_core {pins : List (Addr × Obj)} {s : Shared} {σ : St} {H : Hp} {Q : VK} {elt tg iter : Expr} {ifs : List Expr} {scope : Scope} {own : List (Str × Nat)} {pos pos' : Pos} {wi : TI} {g : TG} {tt : TT} {te : TE} {use : Option (Value → Sem Unit)} {Qf : Value → Shared → Prop}
    (hc : X.calm = true) (hN : X.N.Nodup) (I : Inv X pins σ H s) (hi : PI X tg iter wi) (ok : BlkOk X.N X.env.scope scope own)
    (hg : ∀ (s : Shared) (H : Hp) (C : Addr) (cl : List (Str × Addr)) (fp : List Addr), PG (X.blk s H scope (compEnvC scope cl C X.env) fp) tg g) (ht : ∀ (s : Shared) (H : Hp) (C : Addr) (cl : List (Str × Addr)) (fp : List Addr), PTs (X.blk s H scope (compEnvC scope cl C X.env) fp) ifs tt)
    (he : ∀ (s : Shared) (H : Hp) (C : Addr) (cl : List (Str × Addr)) (fp : List Addr), PE (X.blk s H scope (compEnvC scope cl C X.env) fp) elt te) (hs : ∀ x, foldedSetIterable iter X.env x = pure x)
    (h : tLc wi g tt te (own.map (·.2)) σ H Q)
    (hRR : ∀ D C s' m H', Inv X pins σ H' s' → Q (.ref D) H' → s'.heap.Ns C m → FpOk X pins H' C → compPost (model X.prog X.w) X.A X.xe use Qf (.ref D) C (.ok .next) s') :
    wpAny (model X.prog X.w) X.A (comprehension (.ListComp elt [⟨tg, iter, ifs, 0⟩] scope pos) scope X.env pos' (newList []) false (eval iter X.env) use) Qf X.xe s := by
  have hfree : ∀ y ∈ scope.names, y.2 = .free → ∃ c, X.env.cells.lookup y.1 = some c := fun y hy e => by
    rcases ok.free y hy e with k | k
    · exact I.ok.has _ (.inl k)
    · exact I.ok.has _ (.inr k)
  refine wpAny_comprehension_free (use := use) rfl hs (closure_ok hfree) ok.kind (fun y hy e => by rw [ok.uniq y hy, e])
    (thn (hi pins s σ H _ I h) fun xv s1 hx => thn hx fun itv s2 h2 => ?_)
  obtain ⟨it, fp, tn, J, H2, e, I2, T, st2, f2, q⟩ := h2
  subst e
  refine wpAny_newObj_type (newEnv_comp ?_) (by show 0 ≤ sizeLine; decide)
  generalize hD : s2.heap.objs.size = D
  have hDn : H2 D = none := I2.hok.fresh (Nat.le_of_eq hD)
  obtain ⟨W, ⟨m0, w0⟩, turn⟩ := q D hDn
  generalize hs3 : ({ s2 with heap := s2.heap.push { cls := .type "list", data := .seq ([] : List Value).toArray } } : Shared) = s3
  have I3 : Inv X pins σ (upd H2 D (.lst [])) s3 := by
    rw [← hs3]
    refine I2.laid (t' := s2.toks) (fun b o e => Heap.get?_push_of_some _ e) (Nat.le_of_eq hD) ⟨Nat.zero_le _, [], 0, .nil, ?_⟩
    rw [← hD]
    exact Heap.get?_push_size _ rfl
  have h3 : s3.heap = s2.heap.push { cls := .type "list", data := .seq ([] : List Value).toArray } := by rw [← hs3]
  have sz : ∀ b ∈ fp, b < s2.heap.objs.size := fun b hb => by
    obtain ⟨o, e, _⟩ := T.obj _ _ st2 b hb
    exact Heap.lt_size e
  have f3 : ∀ b ∈ fp, FpOk X pins (upd H2 D (.lst [])) b ∧ b < s3.heap.objs.size := fun b hb => by
    have hlt := sz b hb
    refine ⟨⟨?_, (f2 b hb).2⟩, by rw [h3, Heap.size_push]; exact Nat.lt_succ_of_lt hlt⟩
    rw [upd_ne (by rw [← hD]; exact Nat.ne_of_lt hlt)]
    exact (f2 b hb).1
  have st3 : tn 0 s3.heap := T.keep _ _ _ st2 fun b _ o e => by rw [h3]; exact Heap.get?_push_of_some _ e
  have I4 := block_start I3 ok hN f3
  have pg := hg s3 (upd H2 D (.lst [])) s3.heap.objs.size (cellsFrom (s3.heap.objs.size + 1) scope.names (cloFrom X.env.cells scope.names [])) fp
  have pt := ht s3 (upd H2 D (.lst [])) s3.heap.objs.size (cellsFrom (s3.heap.objs.size + 1) scope.names (cloFrom X.env.cells scope.names [])) fp
  have pe := he s3 (upd H2 D (.lst [])) s3.heap.objs.size (cellsFrom (s3.heap.objs.size + 1) scope.names (cloFrom X.env.cells scope.names [])) fp
  show codeAny _ _ (.compStart (.ListComp elt [⟨tg, iter, ifs, 0⟩] scope pos) 0 (.ref it) (.ref D) (compEnvC scope (cellsFrom (s3.heap.objs.size + 1) scope.names (cloFrom X.env.cells scope.names [])) s3.heap.objs.size X.env)) (compPost (model X.prog X.w) X.A X.xe use Qf (.ref D) s3.heap.objs.size) { s3 with heap := pushCells (s3.heap.push { cls := .type "dict", data := .dict #[] }) scope.names }
  have nfp : ∀ b ∈ fp, (upd H2 D (.lst [])) b = none := fun b hb => (f3 b hb).1.1
  generalize hce : compEnvC scope (cellsFrom (s3.heap.objs.size + 1) scope.names (cloFrom X.env.cells scope.names [])) s3.heap.objs.size X.env = ce at I4 pg pt pe ⊢
  have cL : ce.locals = s3.heap.objs.size := by subst hce; rfl
  generalize hH3 : upd H2 D (.lst []) = H3 at I3 I4 pg pt pe w0 nfp f3
  generalize hs4 : ({ s3 with heap := pushCells (s3.heap.push { cls := .type "dict", data := .dict #[] }) scope.names } : Shared) = s4 at I4 ⊢
  have st4 : tn 0 s4.heap := T.keep _ _ _ st3 fun b _ o e => by rw [← hs4]; exact pushCells_keeps _ _ _ _ (Heap.get?_push_of_some _ e)
  have stat : ∀ {σ' : St} {H' : Hp} {s' : Shared}, Inv (X.blk s3 H3 scope ce fp) [] σ' H' s' → (∀ b ∈ fp, H' b = none) → ∀ b ∈ fp, FpOk (X.blk s3 H3 scope ce fp) [] H' b := fun {σ' H' s'} I' hn b hb =>
    ⟨hn b hb, (I'.ok.exf b hb).1, I'.ok.exfs b hb, .inl hb, fun x c e => (I'.ok.exf b hb).2 x c e, fun p hp => absurd (show p ∈ ([] : List (Addr × Obj)) ++ [] from hp) (by simp)⟩
  have loop : codeAny (model X.prog X.w) X.A (.compLoop (.ListComp elt [⟨tg, iter, ifs, 0⟩] scope pos) 0 (.ref it) (.ref D) ce) (compPost (model X.prog X.w) X.A X.xe use Qf (.ref D) s3.heap.objs.size) s4 := by
    refine compLoop_any (fun n s' => ∃ i H', Inv (X.blk s3 H3 scope ce fp) [] (wipe σ (own.map (·.2))) H' s' ∧ tn i s'.heap ∧ (∀ b ∈ fp, H' b = none) ∧ W i n H') ?_ m0 ⟨0, H3, I4, st4, nfp, w0⟩
    rintro n s5 ⟨i, H5, I5, st5, n5, w5⟩
    rcases turn i n H5 w5 with ⟨stop, qq⟩ | ⟨go, Nx, hNx, step⟩
    · have td := T.done (X.blk s3 H3 scope ce fp) rfl rfl rfl hc i [] s5 _ H5 (fun _ _ => False) I5 (stat I5 n5) st5 stop
      refine thnF td fun r s6 ⟨hr, I6⟩ => ?_
      subst hr
      have I7 : Inv X pins σ H5 s6 := I3.call' (ch := fp) I6.os I6.base I6.hok I6.bare fun b hb => ⟨(f3 b hb).1.2.2.2.1, (f3 b hb).1.2.1, (f3 b hb).1.2.2.2.2.1, (f3 b hb).1.2.2.2.2.2⟩
      have nC : H5 s3.heap.objs.size = none := by
        have z : H5 ce.locals = none := I6.free
        rw [cL] at z
        exact z
      obtain ⟨m, hn, _⟩ := I6.loc
      have hn : s6.heap.Ns ce.locals m := hn
      rw [cL] at hn
      exact hRR D s3.heap.objs.size s6 m H5 I7 qq hn (I3.fpOk (Nat.le_refl _) nC)
    · have ti := T.item (X.blk s3 H3 scope ce fp) rfl rfl rfl hc i [] s5 _ H5 (fun _ _ => False) I5 (stat I5 n5) st5 go
      refine thnF ti fun r s6 ⟨u, hr, h6⟩ => ?_
      subst hr
      refine thnF h6 fun _ s7 ⟨x, H7, I7, r7, y7, st7, n7⟩ => ?_
      have I7' := I7.pinned (stat I7 n7) (T.obj _ _ st7)
      refine thnF (pg _ s7 _ H7 x u _ I7' r7 (step x H7 y7)) fun _ s8 ⟨σ8, H8, I8, hw8, q8⟩ => ?_
      refine thnF (pt _ s8 σ8 H8 _ I8 q8) fun b s9 ⟨H9, I9, q9⟩ => ?_
      have fin : ∀ {s' : Shared} {H' : Hp}, Inv (X.blk s3 H3 scope ce fp) ([] ++ pinsAt fp s7.heap) σ8 H' s' → Nx H' → ∃ m, m < n ∧ ∃ i H', Inv (X.blk s3 H3 scope ce fp) [] (wipe σ (own.map (·.2))) H' s' ∧ tn i s'.heap ∧ (∀ b ∈ fp, H' b = none) ∧ W i m H' := fun {s' H'} I' nx => by
        obtain ⟨m', hm, w'⟩ := hNx H' nx
        have pin' : ∀ b ∈ fp, ∀ o, s7.heap.get? b = some o → s'.heap.get? b = some o ∧ H' b = none := fun b hb o e =>
          let z := I'.pin (b, o) (List.mem_append_right _ (List.mem_append_right _ (mem_pinsAt hb e)))
          ⟨z.1, z.2.1⟩
        have hl : (wipe σ (own.map (·.2))).length = σ8.length := by rw [← hw8, wipe_length]
        refine ⟨m', hm, i + 1, H', (I'.unpinned (pins := [])).weak hl (fun j v e => ?_), T.keep _ _ _ st7 fun b hb o e => (pin' b hb o e).1, fun b hb => ?_, w'⟩
        · rw [← hw8] at e
          exact (wipe_some e).1
        · obtain ⟨o, e, _⟩ := T.obj _ _ st7 b hb
          exact (pin' b hb o e).2
      cases b with
      | false =>
        simp only [Bool.false_eq_true, if_false] at q9 ⊢
        exact fin I9 q9
      | true =>
        simp only [if_true] at q9 ⊢
        refine thnF (pe _ s9 σ8 H9 _ I9 q9) fun z s10 ⟨yv, H10, I10, r10, acc, hD10, hz10, nx⟩ => ?_
        exact app_ok (X := X.blk s3 H3 scope ce fp) I10 hD10 hz10 r10 fun s11 I11 => fin I11 nx
  exact codeAny_compStart_list loop (T.self X.A 0 _ _ _ st4 loop)
theorem pe_lc {elt tg iter : Expr} {ifs : List Expr} {scope : Scope} {own : List (Str × Nat)} {pos : Pos} {wi : TI} {g : TG} {tt : TT} {te : TE} (hc : X.calm = true) (hN : X.N.Nodup) (hi : PI X tg iter wi) (ok : BlkOk X.N X.env.scope scope own)
    (hg : ∀ (s : Shared) (H : Hp) (C : Addr) (cl : List (Str × Addr)) (fp : List Addr), PG (X.blk s H scope (compEnvC scope cl C X.env) fp) tg g) (ht : ∀ (s : Shared) (H : Hp) (C : Addr) (cl : List (Str × Addr)) (fp : List Addr), PTs (X.blk s H scope (compEnvC scope cl C X.env) fp) ifs tt)
    (he : ∀ (s : Shared) (H : Hp) (C : Addr) (cl : List (Str × Addr)) (fp : List Addr), PE (X.blk s H scope (compEnvC scope cl C X.env) fp) elt te) (hs : ∀ x, foldedSetIterable iter X.env x = pure x := by intro _; rfl) :
    PE X (.ListComp elt [⟨tg, iter, ifs, 0⟩] scope pos) (tLc wi g tt te (own.map (·.2))) := by
  intro pins s σ H Q I h
  rw [eval_ListComp]
  refine lc_core hc hN I hi ok hg ht he hs h fun D C s' m H' I' q hn f => ⟨m, hn, fun h'' sb => ?_⟩
  obtain ⟨f0, f1, f2, f3, f4, f5⟩ := f
  exact ⟨.ref D, H', I'.turned (t' := s'.toks) (fun b o hb e => (sb.2 b hb).trans e) f0 f1 f3 f4 f5, rfl, q⟩
end
def blkC (N : List Str) (sc scope : Scope) (own : List (Str × Nat)) : Bool :=
  (match scope.kind with | .function => true | _ => false) && (scope.names.all fun y => decide (scope.names.lookup y.1 = some y.2)) && (own.all fun p => decide (N[p.2]? = some p.1)) &&
    (scope.names.all fun y => match y.2 with
      | .free => (match sc.names.lookup y.1 with | some .cell => true | some .free => true | _ => false)
      | .local => decide (y.1 ∈ own.map (·.1)) || decide (y.1 ∉ N)
      | .cell => decide (y.1 ∈ own.map (·.1)) || decide (y.1 ∉ N)
      | _ => true)
theorem blkOk_by {N : List Str} {sc scope : Scope} {own : List (Str × Nat)} (h : blkC N sc scope own = true) : BlkOk N sc scope own := by
  unfold blkC at h
  simp only [Bool.and_eq_true, List.all_eq_true, decide_eq_true_eq] at h
  obtain ⟨⟨⟨h1, h2⟩, h3⟩, h4⟩ := h
  refine ⟨?_, h2, h3, fun y hy e => ?_, fun y hy e => ?_⟩
  · split at h1
    · assumption
    · cases h1
  · have q := h4 y hy
    simp only [e] at q
    split at q <;> first | exact .inl (by assumption) | exact .inr (by assumption) | cases q
  · have q := h4 y hy
    rcases e with e | e <;> (simp only [e, Bool.or_eq_true, decide_eq_true_eq] at q; exact q)
end L2
namespace L2
open PySem PySem.Spec PyProof.Rows
section
variable {prog : Program} {w : World} {A : Around} {R : Result → Shared → Prop} {s : Shared} {elt t0 i0 t1 i1 : Expr} {ifs0 ifs1 : List Expr} {scope : Scope} {pos : Pos} {it acc : Value} {env : Env}
end
section
variable {X : Cx}
end
end L2
namespace L2
open PySem PySem.Spec PyProof.Rows
section
variable {κ : Type} [DecidableEq κ]
end
section
variable {P : Program} {w : World} {H : Hp} {h : Heap} {a : Addr}
end
section
variable {X : Cx} {pins : List (Addr × Obj)} {σ : St} {H : Hp} {s : Shared} {a : Addr} {y v : V} {u r : Value} {o : Option V} {A : Around} {E : Value → Shared → Prop}
end
section
variable {X : Cx} {pins : List (Addr × Obj)} {σ : St} {H : Hp} {s : Shared} {a : Addr} {kvs : List (Key × V)} {k : Key} {u : Value} {A : Around} {E : Value → Shared → Prop}
end
section
variable {X : Cx} {o i e value : Expr} {pos pos' tpos : Pos} {td ty tv : TE}
end
section
variable {X : Cx} {pos : Pos}
end
section
variable {X : Cx} {pins : List (Addr × Obj)} {σ : St} {H : Hp} {s : Shared} {a : Addr} {y d : V} {u r : Value} {o : Option V} {A : Around} {E : Value → Shared → Prop}
end
section
variable {X : Cx} {o e f : Expr} {apos cpos : Pos} {td ty tx : TE}
end
section
variable {X : Cx} {pins : List (Addr × Obj)} {σ : St} {H : Hp} {s : Shared} {a : Addr} {kvs : List (Key × V)} {A : Around} {E : Value → Shared → Prop}
end
section
variable {X : Cx} {pins : List (Addr × Obj)} {σ : St} {H : Hp} {s : Shared} {a : Addr} {y : V} {u : Value} {A : Around} {E : Value → Shared → Prop}
end
end L2
namespace L2
open PySem PySem.Spec PyProof.Rows
section
variable {prog : Program} {w : World} {A : Around} {E : Value → Shared → Prop}
end
section
variable {X : Cx}
end
end L2
namespace L2
open PySem PySem.Spec PyProof.Rows
section
variable {X : Cx} {pins : List (Addr × Obj)} {σ : St} {H : Hp} {s : Shared} {h' : Heap}
theorem Inv.turnedL {t' : Nat} {ch : List Addr} (I : Inv X pins σ H s) (k : ∀ b o, b ∉ ch → s.heap.get? b = some o → h'.get? b = some o) (hf : ∀ b ∈ ch, FpOk X pins H b) : Inv X pins σ H { s with heap := h', toks := t' } := by
  have nit : ∀ b u, H b = some u → b ∉ ch := fun b u e z => by
    have q := (hf b z).1
    rw [q] at e; cases e
  refine I.step (g' := s.gens) (d' := s.drawn) (ch := ch) (fun b hb => ⟨(hf b hb).2.2.2.1, (hf b hb).2.1, (hf b hb).2.2.2.2.1, (hf b hb).2.2.2.2.2⟩) (fun b o _ _ hc e _ => k b o hc e) (fun b o _ _ hc e _ => ⟨o.slots, k b o hc e⟩)
    (fun _ _ _ _ n => n) (fun b o hc e => ⟨o, k b o hc e⟩) (fun _ _ e => e) (fun _ _ _ e => e) (fun b ps e => ⟨#[], by rw [e]; simp⟩) (fun m hm => ?_) (fun b u e => ?_) I.bare
  · obtain ⟨o, es, ep, ho, r⟩ := hm
    exact ⟨o, es, ep, k _ o (fun z => (hf _ z).2.1 rfl) ho, r⟩
  · refine (I.hok b u e).stay (fun c v hc q => k c v ?_ q) (fun _ q => q) fun _ _ q => q
    rcases hc with z | z
    · rw [z]; exact nit b u e
    · exact nit c _ z
theorem Inv.turnedNew {t' : Nat} {ch : List Addr} {T : Addr} {ob : HO} (I : Inv X pins σ H s) (k : ∀ b o, b ∉ ch → s.heap.get? b = some o → h'.get? b = some o) (hf : ∀ b ∈ ch, FpOk X pins H b) (hT : s.heap.objs.size ≤ T)
    (new : ObjOk X.prog X.w (upd H T ob) h' T ob) : Inv X pins σ (upd H T ob) { s with heap := h', toks := t' } := by
  have hn : H T = none := I.hok.fresh hT
  have nit : ∀ b u, H b = some u → b ∉ ch := fun b u e z => by
    have q := (hf b z).1
    rw [q] at e; cases e
  refine I.step (g' := s.gens) (d' := s.drawn) (ch := ch) (fun b hb => ⟨(hf b hb).2.2.2.1, (hf b hb).2.1, (hf b hb).2.2.2.2.1, (hf b hb).2.2.2.2.2⟩) (fun b o _ _ hc e _ => k b o hc e) (fun b o _ _ hc e _ => ⟨o.slots, k b o hc e⟩)
    (fun b o _ e n => ?_) (fun b o hc e => ⟨o, k b o hc e⟩) (fun b xs e => ?_) (fun b o u e => ?_) (fun b ps e => ⟨#[], ?_⟩) (fun m hm => ?_) (fun b u e => ?_) I.bare
  · rw [upd_ne (Nat.ne_of_lt (Nat.lt_of_lt_of_le (Heap.lt_size e) hT))]; exact n
  · rw [upd_ne (ne_of_none e hn)]; exact e
  · rw [upd_ne (ne_of_none e hn)]; exact e
  · rw [upd_ne (ne_of_none e hn), e]; simp
  · obtain ⟨o, es, ep, ho, r⟩ := hm
    exact ⟨o, es, ep, k _ o (fun z => (hf _ z).2.1 rfl) ho, r⟩
  · by_cases hb : b = T
    · subst hb
      rw [upd_same] at e
      cases e
      exact new
    · rw [upd_ne hb] at e
      refine (I.hok b u e).stay (fun c v hc q => k c v ?_ q) (fun c q => by rw [upd_ne (ne_of_none q hn)]; exact q) fun c xs q => by rw [upd_ne (ne_of_none q hn)]; exact q
      rcases hc with z | z
      · rw [z]; exact nit b u e
      · exact nit c _ z
end
section
variable {X : Cx}
end
section
variable {X : Cx} {tg : Expr}
end
section
variable {X : Cx} {tg : Expr}
end
section
variable {prog : Program} {w : World} {A : Around} {E : Value → Shared → Prop} {s : Shared}
end
section
variable {X : Cx} {pins : List (Addr × Obj)} {σ : St} {H : Hp} {s : Shared} {d : Addr} {o : Obj}
end
section
variable {P : Program} {w : World} {K : PySem.W.Frag} {tg : Expr} {d : Addr} {o : Obj} {es : Array DictEntry} {ep : Nat}
end
section
variable {X : Cx} {tg e : Expr} {td : TE} {apos cpos : Pos}
end
def Ite (K : PySem.W.Frag) (a : Addr) : It :=
  ⟨fun i H => ∃ (xs : List V) (x : V), SqL K H a xs ∧ xs[i]? = some x, fun i H v H' => ∃ T x, v = .ref T ∧ H T = none ∧ H' = upd H T (.tup [.int (i : Nat), x]) ∧ ∀ xs, SqL K H a xs → xs[i]? = some x, fun i H => ∃ xs : List V, SqL K H a xs ∧ xs.length ≤ i⟩
theorem turn_enum {P : Program} {w : World} {K : PySem.W.Frag} {elts : List Expr} {kk : Nat} {tpos : Pos} (a e it : Addr) :
    Turn P w K (.Tuple elts kk tpos) (Ite K a) [e, it] e (fun i h => (∃ old, IsEnum h e it ((i : Nat) : Int) old) ∧ h.IsListIter it a i ∧ e ≠ it) where
  mem := by simp
  obj := fun i h st b hb => by
    obtain ⟨⟨old, he⟩, ⟨o, ho, hc, hd⟩, _⟩ := st
    have e' : b = e ∨ b = it := by simpa using hb
    rcases e' with z | z
    · rw [z]; exact ⟨_, he, fun v q => nomatch q⟩
    · rw [z]; exact ⟨o, ho, fun v q => by rw [hd] at q; cases q⟩
  keep := fun i h h' st k => let ⟨⟨old, he⟩, hi, hne⟩ := st; ⟨⟨old, k e (by simp) _ he⟩, hi.at fun o q => k it (by simp) o q, hne⟩
  item := by
    intro X hP hw hK hc i pins s σ H E I hf st hg
    subst hP hw hK
    obtain ⟨⟨old, he⟩, hit, hne⟩ := st
    obtain ⟨xs, x, hq, hx⟩ := hg
    obtain ⟨its, rv, p, hz⟩ := I.list hq
    obtain ⟨u, hu, ru⟩ := rv.get hx
    have hel : e < s.heap.objs.size := Heap.lt_size he
    have hil : it < s.heap.objs.size := by obtain ⟨_, q, _⟩ := hit; exact Heap.lt_size q
    refine wpAny_pyNext_enum_item he hit p.isList (x := u) (by simpa using hu) hne fun h' ho hit' hT hsz hk => ?_
    refine ⟨_, rfl, wpAny_letOwnedTupleGo_enum (s := { s with heap := h', toks := s.toks + 1 }) ho fun h'' he' sb => ?_⟩
    have hT2 : h''.get? s.heap.objs.size = some { cls := .type "tuple", data := .seq #[.int i s.toks, u] } := (sb.2 _ (Nat.ne_of_gt hel)).trans hT
    have new : ObjOk X.prog X.w (upd H s.heap.objs.size (.tup [.int (i : Nat), x])) h'' s.heap.objs.size (.tup [.int (i : Nat), x]) :=
      ⟨by show 2 ≤ sizeLine; decide, [.int i s.toks, u], .cons ⟨_, rfl⟩ (.cons ru .nil), ⟨_, hT2, rfl, _, rfl⟩⟩
    have I1 : Inv X pins σ (upd H s.heap.objs.size (.tup [.int (i : Nat), x])) { s with heap := h'', toks := s.toks + 1 } :=
      I.turnedNew (ch := [e, it]) (fun b ob hb q => (sb.2 b (fun z => hb (by simp [z]))).trans (hk b ob (fun z => hb (by simp [z])) (fun z => hb (by simp [z])) q)) hf (Nat.le_refl _) new
    refine ⟨.ref s.heap.objs.size, _, I1, rfl, ⟨_, x, rfl, I.hok.fresh (Nat.le_refl _), rfl, fun ys hy => by rw [I.list_inj hy hq]; exact hx⟩, ⟨⟨u, ?_⟩, hit'.at fun o q => (sb.2 it (Ne.symm hne)).trans q, hne⟩, fun b hb => ?_⟩
    · have e1 : ((i + 1 : Nat) : Int) = (i : Int) + 1 := by omega
      rw [e1]; exact he'
    · have hb' : b < s.heap.objs.size := by
        have e' : b = e ∨ b = it := by simpa using hb
        rcases e' with z | z
        · rw [z]; exact hel
        · rw [z]; exact hil
      rw [upd_ne (Nat.ne_of_lt hb')]
      exact (hf b hb).1
  done := by
    intro X hP hw hK hc i pins s σ H E I hf st hg
    subst hP hw hK
    obtain ⟨⟨old, he⟩, hit, hne⟩ := st
    obtain ⟨xs, hq, hx⟩ := hg
    obtain ⟨its, rv, p, hz⟩ := I.list hq
    obtain ⟨f0, f1, f2, f3, f4, f5⟩ := hf it (by simp)
    have hl := rv.length
    exact wpAny_pyNext_enum_end (I.ok.hd hc) he hit p.isList (by simp; omega) fun h' eb => ⟨rfl, I.turned (t' := s.toks) (fun b o hb q => eb b o hb q) f0 f1 f3 f4 f5⟩
  self := fun A i s Q E st h => let ⟨⟨_, he⟩, _⟩ := st; wpAny_pyIter_enum he h
def iEnum (K : PySem.W.Frag) (ta : TA) : TI := fun σ H R => ta σ H fun vs H1 => ∃ a xs, vs = [.ref a] ∧ SqL K H1 a xs ∧ R (Ite K a) H1
theorem pi_enum {X : Cx} {e : Expr} {ta : TA} {p pos tpos : Pos} {elts : List Expr} {kk : Nat} (hg : Gl X "enumerate") (hm : X.mg "enumerate" = none) (ha : PA X [e] ta) (hs : starEach [e] X.env = [(false, eval e X.env)] := by rfl) :
    PI X (.Tuple elts kk tpos) (.Call (.Name "enumerate" p) [e] [] pos) (iEnum X.K ta) := by
  intro pins s σ H R I h
  refine Call_ (ld_blt I hg hm boot_enumerate (PyProof.Rows.callWith_type1 (thn (ha pos pins s σ H _ I h) fun us s1 ⟨vs, H1, I1, r1, q1⟩ => ?_) hs rfl))
  obtain ⟨a, xs, ex, hq, q⟩ := q1
  subst ex
  cases r1 with
  | cons r rr =>
    cases rr
    cases r
    obtain ⟨its, rv, p', hz⟩ := I1.list hq
    refine call_enumerate_list p'.isList fun h' he hit hsz hk => wpAny_pyIter_enum he ?_
    have I2 : Inv X pins σ H1 { s1 with heap := h' } := I1.kept (t' := s1.toks) hk
    refine ⟨s1.heap.objs.size + 1, [s1.heap.objs.size + 1, s1.heap.objs.size], _, _, H1, rfl, I2, turn_enum a (s1.heap.objs.size + 1) s1.heap.objs.size, ⟨⟨.none, he⟩, hit, Nat.succ_ne_self _⟩, fun b hb => ?_, q⟩
    have e' : b = s1.heap.objs.size + 1 ∨ b = s1.heap.objs.size := by simpa using hb
    have hle : s1.heap.objs.size ≤ b := by
      rcases e' with z | z
      · rw [z]; exact Nat.le_add_right _ _
      · rw [z]; exact Nat.le_refl _
    exact I1.fpOk hle (I1.hok.fresh hle)
theorem boot_zip5 : bootBuiltins "zip" = some (.type "zip") := by decide +kernel
end L2
section 
namespace Bits
open PySem PyProof.Rows
end Bits
end 
section 
namespace TL
open PySem PySem.Builtin PySem.Builtin.Str PySem.StrLaws
end TL
end 
namespace L2
open PySem PySem.Spec PyProof.Rows
section
variable {X : Cx} {pins : List (Addr × Obj)} {σ : St} {H : Hp} {s : Shared} {Q : VK}
end
section
variable {X : Cx}
end
section
variable {X : Cx} {o e : Expr} {to te : TE}
end
end L2
namespace L2
open PySem PySem.Spec PyProof.Rows
section
variable {X : Cx}
end
end L2
namespace Att
open PySem PySem.W PySem.Calls PyProof.Rows
section
variable {prog : Program} {w : World} {A : Around} {E : Value → Shared → Prop} {s : Shared} {K : Frag}
end
end Att
namespace L2
open PySem PySem.Spec PyProof.Rows
end L2
namespace L2
open PySem PySem.Spec PyProof.Rows
abbrev KOf {K : PySem.W.Frag} {h : Heap} (_ : K.In h) : PySem.W.Frag := K
end L2
namespace L2
open PySem PySem.Spec PyProof.Rows
def inClass (s : Stmt) (j : Nat) : Stmt := match s with
  | .ClassDef _ _ _ body _ _ _ _ _ _ _ => body.getD j (.Pass ⟨0, 0, 0, 0⟩)
  | _ => .Pass ⟨0, 0, 0, 0⟩
def defArgs (s : Stmt) : Arguments := match s with
  | .FunctionDef _ a _ _ _ _ _ _ _ _ => a
  | _ => { posonlyargs := [], args := [], vararg := none, kwonlyargs := [], kw_defaults := [], kwarg := none, defaults := [] }
def defBody (s : Stmt) : List Stmt := match s with
  | .FunctionDef _ _ b _ _ _ _ _ _ _ => b
  | _ => []
def defScope (s : Stmt) : Scope := match s with
  | .FunctionDef _ _ _ _ _ _ sc _ _ _ => sc
  | _ => { kind := .function, names := [], isGenerator := false, isCoroutine := false }
abbrev CX0 : CXT := fun _ _ _ _ _ _ => False
abbrev E0 : XK := fun _ _ _ => False
theorem pass0 {X : Cx} : Passes CX0 X E0 := fun _ _ _ _ _ _ _ h => h.elim
structure Fun (K : PySem.W.Frag) (x qual : Str) (st : Stmt) (f : Addr) (fd : FuncData) : Prop where
  ex : ∃ (oc : Value) (od : Option Addr) (kV doc pm : Value) (an : Option Addr) (cdv ct : Value) (osl : Array (Option Value)),
    fd = PySem.W.fnOf x qual (defArgs st) (defBody st) (defScope st) .none kV doc pm an cdv ct ∧ K.lookup f = some ⟨oc, od, .func fd, osl⟩ ∧ PySem.W.codeIn K cdv qual = true
  kp : PySem.W.keepIn K (.ref f) = true
section
variable {P : Program} {w : World} {K : PySem.W.Frag} {mg : Str → Option Value} {base : Heap}
theorem Fun.ok {x qual : Str} {st : Stmt} {f : Addr} {fd : FuncData} {N ps : List Str} {k : Nat} {sp : Sp} (F : Fun K x qual st f fd) (S : FnScope N ps (defScope st)) (len : ∀ vs H Q E, sp vs H Q E → vs.length = ps.length)
    (hbody : ∀ (cdv : Value) (A : Around) (outer : List Env) (s : Shared) (H : Hp) (vs : List V) (Q : VK) (E : XK), Room k (A.deeper (envOfC qual (defScope st) s.heap.objs.size f cdv)) → sp vs H Q E →
      ∃ t, PSs (cxOf CX0 P w K mg base N qual (defScope st) f cdv A outer s H E).nox (defBody st) t ∧ t { nx := fun _ H' => Q .non H', rt := Q } (start N vs) H) : FnOk P w K mg base CX0 (k + 1) f fd ps sp := by
  obtain ⟨oc, od, kV, doc, pm, an, cdv, ct, osl, rfl, lk, hcd⟩ := F.ex
  refine fn_of lk hcd S len fun A outer s H vs Q E hr hsp => ?_
  obtain ⟨t, h, q⟩ := hbody cdv A outer s H vs Q E hr hsp
  exact ⟨t, h.nox, q⟩
theorem Fun.binds {x qual : Str} {st : Stmt} {f : Addr} {fd : FuncData} {ps : List Str} (F : Fun K x qual st f fd)
    (h : ∀ (kV doc pm : Value) (an : Option Addr) (cdv ct : Value) (us : List Value), us.length = ps.length → bindArgs (PySem.W.fnOf x qual (defArgs st) (defBody st) (defScope st) .none kV doc pm an cdv ct) ⟨us, []⟩ = pure (ps.zip us)) : Binds K fd ps [] := by
  obtain ⟨oc, od, kV, doc, pm, an, cdv, ct, osl, rfl, lk, hcd⟩ := F.ex
  exact .all (h kV doc pm an cdv ct)
theorem fun_mk {x qual : Str} {st : Stmt} {f : Addr} {oc : Value} {od an : Option Addr} {osl : Array (Option Value)} {kV doc pm cdv ct : Value} (l : K.lookup f = some ⟨oc, od, .func (PySem.W.fnOf x qual (defArgs st) (defBody st) (defScope st) .none kV doc pm an cdv ct), osl⟩)
    (c : PySem.W.codeIn K cdv qual = true) (k : PySem.W.keepIn K (.ref f) = true) : Fun K x qual st f (PySem.W.fnOf x qual (defArgs st) (defBody st) (defScope st) .none kV doc pm an cdv ct) := ⟨⟨oc, od, kV, doc, pm, an, cdv, ct, osl, rfl, l, c⟩, k⟩
end
section
variable {X : Cx}
theorem pv (i : Nat) {x : Str} {pos : Pos} (hN : X.N[i]? = some x := by rfl) (hv : Vis X.env.scope x := by first | exact Or.inl rfl | exact Or.inr (Or.inl rfl) | exact Or.inr (Or.inr rfl)) (hd : (x == ("__debug__" : Str)) = false := by decide)
    (hcd : (x == ("__classdict__" : Str)) = false := by decide) : PE X (.Name x pos) (tVar i) := pe_var hN hv hd hcd
end
theorem iteF {A B : Prop} (h : B) : if false = true then A else B := by
  rw [if_neg Bool.false_ne_true]
  exact h
theorem iteT {A B : Prop} (h : A) : if true = true then A else B := by
  rw [if_pos rfl]
  exact h
theorem ite2 {c A B : Prop} [Decidable c] (h1 : c → A) (h2 : ¬ c → B) : if c then A else B := by
  by_cases h : c
  · rw [if_pos h]
    exact h1 h
  · rw [if_neg h]
    exact h2 h
def Same (H H' : Hp) : Prop := ∀ b o, H b = some o → H' b = some o
theorem Same.refl (H : Hp) : Same H H := fun _ _ h => h
theorem Same.trans {H H1 H2 : Hp} (a : Same H H1) (b : Same H1 H2) : Same H H2 := fun c o h => b c o (a c o h)
theorem Same.seq {K : PySem.W.Frag} {H H' : Hp} {a : Addr} {xs : List V} (e : Same H H') (h : SqL K H a xs) : SqL K H' a xs := by
  rcases h with (h | ⟨o, h⟩) | h
  · exact .inl (.inl (e _ _ h))
  · exact .inl (.inr ⟨o, e _ _ h⟩)
  · exact .inr h
section
variable {κ : Type} [DecidableEq κ]
end
end L2
set_option maxHeartbeats 2000000
namespace L2
open PySem PySem.Spec PyProof.Rows
open PySem.W (WData Codec OpenSpec Well WellAll ReadsW ReadsAllW)
mutual
inductive Dw (K : PySem.W.Frag) (H : Hp) : V → WData → Prop
  | non : Dw K H .non .none
  | bl (b : Bool) : Dw K H (.bl b) (.bool b)
  | int (i : Int) : Dw K H (.int i) (.int i)
  | str (x : Str) : Dw K H (.str x) (.str x)
  | byt (b : Array UInt8) : Dw K H (.byt b) (.bytes b.toList)
  | lst {a : Addr} {xs : List V} {ds : List WData} : SqL K H a xs → DwAll K H xs ds → Dw K H (.ref a) (.list ds)
  | tup {a : Addr} {xs : List V} {ds : List WData} : SqT K H a xs → DwAll K H xs ds → Dw K H (.ref a) (.tuple ds)
inductive DwAll (K : PySem.W.Frag) (H : Hp) : List V → List WData → Prop
  | nil : DwAll K H [] []
  | cons {v : V} {vs : List V} {d : WData} {ds : List WData} : Dw K H v d → DwAll K H vs ds → DwAll K H (v :: vs) (d :: ds)
end
theorem dw_ints {K : PySem.W.Frag} {H : Hp} : ∀ ns : List Int, DwAll K H (ns.map V.int) (ns.map WData.int)
  | [] => .nil
  | n :: r => .cons (.int n) (dw_ints r)
theorem ints_dw {K : PySem.W.Frag} {H : Hp} : ∀ (ns : List Int) (xs : List V), DwAll K H xs (ns.map WData.int) → xs = ns.map V.int
  | [], xs, h => by
    cases h
    rfl
  | n :: r, xs, h => by
    cases h with
    | cons h1 h2 =>
      cases h1
      rw [ints_dw r _ h2] <;> rfl
section
variable {P : Program} {w : World} {K : PySem.W.Frag} {H : Hp} {h : Heap} {R : PySem.W.WRecords} {cl : Str → Option Addr}
theorem sqL_at {a : Addr} {xs : List V} (hok : HOk P w H h) (KX : K.In h) (q : SqL K H a xs) : ∃ (its : List Value) (o : Obj) (n : Nat), Vals xs its ∧ h.get? a = some o ∧ o.cls = .type "list" ∧ o.data = .seq its.toArray n := by
  rcases q with q | ⟨o, its, n, e, hc, _, hd, _, hv⟩
  · obtain ⟨_, its, n, hv, e⟩ := (show ObjOk P w H h a (.lst xs) from q.ok hok)
    exact ⟨its, _, n, hv, e, rfl, rfl⟩
  · exact ⟨its.toList, o, n, hv, KX _ _ e, hc, by simp [hd]⟩
theorem sqT_at {a : Addr} {xs : List V} (hok : HOk P w H h) (KX : K.In h) (q : SqT K H a xs) : ∃ (its : List Value) (o : Obj) (n : Nat), Vals xs its ∧ h.get? a = some o ∧ o.cls = .type "tuple" ∧ o.data = .seq its.toArray n := by
  rcases q with q | ⟨o, its, n, e, hc, hd, _, hv⟩
  · obtain ⟨_, its, hv, o, e, hc, n, hd⟩ := (show ObjOk P w H h a (.tup xs) from q.ok hok)
    exact ⟨its, o, n, hv, e, hc, hd⟩
  · exact ⟨its.toList, o, n, hv, KX _ _ e, hc, by simp [hd]⟩
mutual
theorem Dw.reads (hok : HOk P w H h) (KX : K.In h) : ∀ (d : WData) (v : V) (u : Value), Dw K H v d → RelV v u → ∃ as, ReadsW R cl h u d as
  | .none, _, _, x, r => by
    cases x
    cases r
    exact ⟨_, ReadsW.none⟩
  | .bool b, _, _, x, r => by
    cases x
    cases r
    exact ⟨_, ReadsW.bool b⟩
  | .int i, _, _, x, r => by
    cases x
    obtain ⟨t, rfl⟩ := r
    exact ⟨_, ReadsW.int i t⟩
  | .str s, _, _, x, r => by
    cases x
    obtain ⟨t, rfl⟩ := r
    exact ⟨_, ReadsW.str s t⟩
  | .bytes b, _, _, x, r => by
    cases x
    obtain ⟨t, rfl⟩ := r
    exact ⟨_, ReadsW.bytes _ t⟩
  | .list ds, _, _, x, r => by
    cases x with
    | lst hs ha =>
      cases r
      obtain ⟨its, o, n, rv, ho, hc, hd⟩ := sqL_at hok KX hs
      obtain ⟨as, hr⟩ := Dw.readsAll hok KX ds _ its ha rv
      exact ⟨_, ReadsW.list ho hc hd hr⟩
  | .tuple ds, _, _, x, r => by
    cases x with
    | tup hs ha =>
      cases r
      obtain ⟨its, o, n, rv, ho, hc, hd⟩ := sqT_at hok KX hs
      obtain ⟨as, hr⟩ := Dw.readsAll hok KX ds _ its ha rv
      exact ⟨_, ReadsW.tuple ho hc hd hr⟩
  | .float _, _, _, x, _ => by cases x
  | .dict _, _, _, x, _ => by cases x
  | .bytearray _, _, _, x, _ => by cases x
  | .set _, _, _, x, _ => by cases x
  | .frozenset _, _, _, x, _ => by cases x
  | .obj _ _, _, _, x, _ => by cases x
theorem Dw.readsAll (hok : HOk P w H h) (KX : K.In h) : ∀ (ds : List WData) (vs : List V) (us : List Value), DwAll K H vs ds → Vals vs us → ∃ as, ReadsAllW R cl h us ds as
  | [], _, _, x, r => by
    cases x
    cases r
    exact ⟨_, ReadsAllW.nil⟩
  | d :: ds, _, _, x, r => by
    cases x with
    | cons h1 h2 =>
      cases r with
      | cons r1 r2 =>
        obtain ⟨as, q1⟩ := Dw.reads hok KX d _ _ h1 r1
        obtain ⟨bs, q2⟩ := Dw.readsAll hok KX ds _ _ h2 r2
        exact ⟨_, ReadsAllW.cons q1 q2⟩
end
end
mutual
def plW : WData → Bool
  | .none => true
  | .bool _ => true
  | .int _ => true
  | .str _ => true
  | .bytes _ => true
  | .list xs => plWs xs
  | .tuple xs => plWs xs
  | _ => false
def plWs : List WData → Bool
  | [] => true
  | x :: r => plW x && plWs r
end
theorem plWs_map {α : Type} {f : α → WData} (h : ∀ a, plW (f a) = true) : ∀ l : List α, plWs (l.map f) = true
  | [] => rfl
  | x :: r => by
    show (plW (f x) && plWs (r.map f)) = true
    rw [h x, plWs_map h r] <;> rfl
theorem pl_enc : ∀ (c : Codec) (a : c.denote), plW (c.enc a) = true
  | .unit, _ => rfl
  | .bool, _ => rfl
  | .int _ _, _ => rfl
  | .nat _ _, _ => rfl
  | .u8, _ => rfl
  | .bytes _ _, _ => rfl
  | .text _ _ _ _, _ => rfl
  | .list _ _ c, a => plWs_map (fun x => pl_enc c x) a
  | .pair c d, a => by
    show (plW (c.enc a.1) && (plW (d.enc a.2) && true)) = true
    rw [pl_enc c a.1, pl_enc d a.2] <;> rfl
  | .triple c d e, a => by
    show (plW (c.enc a.1) && (plW (d.enc a.2.1) && (plW (e.enc a.2.2) && true))) = true
    rw [pl_enc c a.1, pl_enc d a.2.1, pl_enc e a.2.2] <;> rfl
  | .option c, none => rfl
  | .option c, some x => pl_enc c x
theorem pl_encAll : ∀ (cs : List Codec) (a : Codec.denoteAll cs), plWs (Codec.encAll cs a) = true
  | [], _ => rfl
  | c :: cs, a => by
    show (plW (c.enc a.1) && plWs (Codec.encAll cs a.2)) = true
    rw [pl_enc c a.1, pl_encAll cs a.2] <;> rfl
theorem weight_mem : ∀ {xs : List WData} {d : WData}, d ∈ xs → d.weight ≤ WData.weightAll xs
  | [], d, h => absurd h (by simp)
  | x :: r, d, h => by
    show d.weight ≤ x.weight + 1 + WData.weightAll r
    rcases List.mem_cons.mp h with e | m
    · rw [e]
      omega
    · have z := weight_mem m
      omega
def toV : Value → V
  | .none => .non
  | .bool b => .bl b
  | .int i _ => .int i
  | .str x _ => .str x
  | .bytes b _ => .byt b
  | .ref a => .ref a
  | _ => .non
def OkU (A : List Addr) : Value → Prop
  | .none => True
  | .bool _ => True
  | .int _ _ => True
  | .str _ _ => True
  | .bytes _ _ => True
  | .ref a => a ∈ A
  | _ => False
theorem OkU.mono {A B : List Addr} (h : ∀ a ∈ A, a ∈ B) : ∀ {u : Value}, OkU A u → OkU B u := fun {u} x => by
  cases u with
  | ref a => exact h a x
  | none => trivial
  | bool b => trivial
  | int i t => trivial
  | str s t => trivial
  | bytes b t => trivial
  | _ => exact False.elim x
theorem relV_toV {A : List Addr} {u : Value} (x : OkU A u) : RelV (toV u) u := by
  cases u with
  | ref a => rfl
  | none => rfl
  | bool b => rfl
  | int i t => exact ⟨t, rfl⟩
  | str s t => exact ⟨t, rfl⟩
  | bytes b t => exact ⟨t, rfl⟩
  | _ => exact False.elim x
theorem vals_toV {A : List Addr} : ∀ {vs : List Value}, (∀ u ∈ vs, OkU A u) → Vals (vs.map toV) vs
  | [], _ => .nil
  | u :: r, h => .cons (relV_toV (h u (List.mem_cons_self ..))) (vals_toV fun x hx => h x (List.mem_cons_of_mem _ hx))
def ArgOb (h : Heap) (A : List Addr) (a : Addr) : Prop := ∃ vs : List Value, vs.length ≤ sizeLine ∧ (∀ u ∈ vs, OkU A u) ∧
  (h.get? a = some { cls := .type "list", data := .seq vs.toArray } ∨ h.get? a = some { cls := .type "tuple", data := .seq vs.toArray })
theorem ArgOb.mono {h : Heap} {A B : List Addr} {a : Addr} (k : ∀ a ∈ A, a ∈ B) (x : ArgOb h A a) : ArgOb h B a := by
  obtain ⟨vs, h1, h2, h3⟩ := x
  exact ⟨vs, h1, fun u hu => (h2 u hu).mono k, h3⟩
theorem wellAll_len {P : Params} {h : Heap} : ∀ {vs : List Value} {ds : List WData}, WellAll P h vs ds → vs.length = ds.length
  | _, _, .nil => rfl
  | _, _, .cons _ b => by
    show _ + 1 = _ + 1
    rw [wellAll_len b]
theorem well_list {P : Params} {h : Heap} {v : Value} {ds : List WData} (x : Well P h v (.list ds)) : ∃ (a : Addr) (vs : List Value), v = .ref a ∧ h.get? a = some { cls := .type "list", data := .seq vs.toArray } ∧ WellAll P h vs ds := by
  cases x with
  | list ho hall => exact ⟨_, _, rfl, ho, hall⟩
theorem well_tuple {P : Params} {h : Heap} {v : Value} {ds : List WData} (x : Well P h v (.tuple ds)) : ∃ (a : Addr) (vs : List Value), v = .ref a ∧ h.get? a = some { cls := .type "tuple", data := .seq vs.toArray } ∧ WellAll P h vs ds := by
  cases x with
  | tuple ho hall => exact ⟨_, _, rfl, ho, hall⟩
theorem well_cons {P : Params} {h : Heap} {us : List Value} {d : WData} {ds : List WData} (x : WellAll P h us (d :: ds)) : ∃ (v : Value) (vs : List Value), us = v :: vs ∧ Well P h v d ∧ WellAll P h vs ds := by
  cases x with
  | cons a b => exact ⟨_, _, rfl, a, b⟩
theorem line_of {n : Nat} (h : n ≤ 1048576) : n ≤ sizeLine := Nat.le_trans h (by decide)
section
variable {P : Params} {h : Heap}
mutual
theorem area_one : ∀ (d : WData) (v : Value), Well P h v d → plW d = true → d.weight ≤ 1048576 → ∃ A : List Addr, OkU A v ∧ ∀ a ∈ A, ArgOb h A a
  | .none, _, x, _, _ => by
    cases x
    exact ⟨[], trivial, fun a m => absurd m (by simp)⟩
  | .bool b, _, x, _, _ => by
    cases x
    exact ⟨[], trivial, fun a m => absurd m (by simp)⟩
  | .int i, _, x, _, _ => by
    cases x
    exact ⟨[], trivial, fun a m => absurd m (by simp)⟩
  | .str s, _, x, _, _ => by
    cases x
    exact ⟨[], trivial, fun a m => absurd m (by simp)⟩
  | .bytes b, _, x, _, _ => by
    cases x
    exact ⟨[], trivial, fun a m => absurd m (by simp)⟩
  | .list ds, _, x, p, z => by
    obtain ⟨a, vs, rfl, ho, hall⟩ := well_list x
    have z2 : WData.weightAll ds ≤ 1048576 := z
    obtain ⟨A, h1, h2⟩ := area_all ds _ hall p fun d hd => Nat.le_trans (weight_mem hd) z2
    have k : ∀ b ∈ A, b ∈ a :: A := fun b hb => List.mem_cons_of_mem _ hb
    refine ⟨a :: A, List.mem_cons_self .., fun b hb => ?_⟩
    rcases List.mem_cons.mp hb with e | m
    · rw [e]
      exact ⟨vs, line_of (by rw [wellAll_len hall]; exact Nat.le_trans (PySem.W.length_le_weightAllW ds) z2), fun u hu => (h1 u hu).mono k, .inl ho⟩
    · exact (h2 b m).mono k
  | .tuple ds, _, x, p, z => by
    obtain ⟨a, vs, rfl, ho, hall⟩ := well_tuple x
    have z2 : WData.weightAll ds ≤ 1048576 := z
    obtain ⟨A, h1, h2⟩ := area_all ds _ hall p fun d hd => Nat.le_trans (weight_mem hd) z2
    have k : ∀ b ∈ A, b ∈ a :: A := fun b hb => List.mem_cons_of_mem _ hb
    refine ⟨a :: A, List.mem_cons_self .., fun b hb => ?_⟩
    rcases List.mem_cons.mp hb with e | m
    · rw [e]
      exact ⟨vs, line_of (by rw [wellAll_len hall]; exact Nat.le_trans (PySem.W.length_le_weightAllW ds) z2), fun u hu => (h1 u hu).mono k, .inr ho⟩
    · exact (h2 b m).mono k
  | .float _, _, _, p, _ => Bool.noConfusion (show false = true from p)
  | .dict _, _, _, p, _ => Bool.noConfusion (show false = true from p)
  | .bytearray _, _, _, p, _ => Bool.noConfusion (show false = true from p)
  | .set _, _, _, p, _ => Bool.noConfusion (show false = true from p)
  | .frozenset _, _, _, p, _ => Bool.noConfusion (show false = true from p)
  | .obj _ _, _, _, p, _ => Bool.noConfusion (show false = true from p)
theorem area_all : ∀ (ds : List WData) (vs : List Value), WellAll P h vs ds → plWs ds = true → (∀ d ∈ ds, d.weight ≤ 1048576) → ∃ A : List Addr, (∀ u ∈ vs, OkU A u) ∧ ∀ a ∈ A, ArgOb h A a
  | [], _, x, _, _ => by
    cases x
    exact ⟨[], fun u m => absurd m (by simp), fun a m => absurd m (by simp)⟩
  | d :: ds, _, x, p, z => by
    obtain ⟨v, vs, rfl, x1, x2⟩ := well_cons x
    have q : plW d = true ∧ plWs ds = true := Bool.and_eq_true_iff.mp p
    obtain ⟨A, a1, a2⟩ := area_one d v x1 q.1 (z d (List.mem_cons_self ..))
    obtain ⟨B, b1, b2⟩ := area_all ds vs x2 q.2 fun e he => z e (List.mem_cons_of_mem _ he)
    have kA : ∀ b ∈ A, b ∈ A ++ B := fun b hb => List.mem_append.mpr (.inl hb)
    have kB : ∀ b ∈ B, b ∈ A ++ B := fun b hb => List.mem_append.mpr (.inr hb)
    refine ⟨A ++ B, fun u hu => ?_, fun b hb => ?_⟩
    · rcases List.mem_cons.mp hu with e | m
      · rw [e]
        exact a1.mono kA
      · exact (b1 u m).mono kB
    · rcases List.mem_append.mp hb with m | m
      · exact (a2 b m).mono kA
      · exact (b2 b m).mono kB
end
end
def hoOf (o : Obj) : Option HO := match o.data with
  | .seq vs _ => if (o.cls == Value.type "list") = true then some (.frz o (.lst (vs.toList.map toV))) else some (.frz o (.tup (vs.toList.map toV)))
  | _ => none
def argH (K : PySem.W.Frag) (h : Heap) (A : List Addr) : Hp := fun b => if b ∈ A then (if (K.lookup b).isNone = true then (h.get? b).bind hoOf else none) else none
def OnlyF (H : Hp) : Prop := ∀ b, H b = none ∨ ∃ o u, H b = some (.frz o u)
theorem hoOf_lst (vs : List Value) : hoOf { cls := .type "list", data := .seq vs.toArray } = some (.frz { cls := .type "list", data := .seq vs.toArray } (.lst (vs.map toV))) := by
  show (if (Value.type "list" == Value.type "list") = true then some (HO.frz { cls := .type "list", data := .seq vs.toArray } (.lst (vs.toArray.toList.map toV))) else some (HO.frz { cls := .type "list", data := .seq vs.toArray } (.tup (vs.toArray.toList.map toV)))) = _
  rw [if_pos (beq_self_eq_true _)]
theorem hoOf_tup (vs : List Value) : hoOf { cls := .type "tuple", data := .seq vs.toArray } = some (.frz { cls := .type "tuple", data := .seq vs.toArray } (.tup (vs.map toV))) := by
  show (if (Value.type "tuple" == Value.type "list") = true then some (HO.frz { cls := .type "tuple", data := .seq vs.toArray } (.lst (vs.toArray.toList.map toV))) else some (HO.frz { cls := .type "tuple", data := .seq vs.toArray } (.tup (vs.toArray.toList.map toV)))) = _
  rw [if_neg (by decide)]
section
variable {P : Program} {w : World} {K : PySem.W.Frag} {h : Heap} {A : List Addr}
theorem argH_at {b : Addr} {o : Obj} (hb : b ∈ A) (hk : K.lookup b = none) (e : h.get? b = some o) : argH K h A b = hoOf o := by
  unfold argH
  rw [if_pos hb, hk, if_pos (show (none : Option Obj).isNone = true from rfl), e] <;> rfl
theorem of_argH {b : Addr} {u : HO} (q : argH K h A b = some u) : b ∈ A ∧ K.lookup b = none := by
  unfold argH at q
  by_cases hb : b ∈ A
  · rw [if_pos hb] at q
    cases hk : K.lookup b with
    | none => exact ⟨hb, rfl⟩
    | some o =>
      rw [hk, if_neg (by simp)] at q
      cases q
  · rw [if_neg hb] at q
    cases q
theorem argH_is (ar : ∀ a ∈ A, ArgOb h A a) {b : Addr} {u : HO} (q : argH K h A b = some u) : K.lookup b = none ∧ ∃ vs : List Value, vs.length ≤ sizeLine ∧ (∀ u ∈ vs, OkU A u) ∧
    ((h.get? b = some { cls := .type "list", data := .seq vs.toArray } ∧ u = .frz { cls := .type "list", data := .seq vs.toArray } (.lst (vs.map toV))) ∨
     (h.get? b = some { cls := .type "tuple", data := .seq vs.toArray } ∧ u = .frz { cls := .type "tuple", data := .seq vs.toArray } (.tup (vs.map toV)))) := by
  obtain ⟨hb, hk⟩ := of_argH q
  obtain ⟨vs, h1, h2, h3⟩ := ar b hb
  refine ⟨hk, vs, h1, h2, ?_⟩
  rcases h3 with e | e
  · rw [argH_at hb hk e, hoOf_lst] at q
    exact .inl ⟨e, (Option.some.inj q).symm⟩
  · rw [argH_at hb hk e, hoOf_tup] at q
    exact .inr ⟨e, (Option.some.inj q).symm⟩
theorem argH_only (ar : ∀ a ∈ A, ArgOb h A a) : OnlyF (argH K h A) := fun b => by
  cases q : argH K h A b with
  | none => exact .inl rfl
  | some u =>
    obtain ⟨_, vs, _, _, ⟨_, e⟩ | ⟨_, e⟩⟩ := argH_is ar q
    · exact .inr ⟨_, _, by rw [e]⟩
    · exact .inr ⟨_, _, by rw [e]⟩
theorem argH_ok (ar : ∀ a ∈ A, ArgOb h A a) : HOk P w (argH K h A) h := fun b u q => by
  obtain ⟨_, vs, h1, h2, ⟨e, rfl⟩ | ⟨e, rfl⟩⟩ := argH_is ar q
  · exact ⟨e, by rw [List.length_map]; exact h1, vs, _, vals_toV h2, e⟩
  · exact ⟨e, by rw [List.length_map]; exact h1, vs, vals_toV h2, _, e, rfl, _, rfl⟩
theorem seq_inj {c c' : Value} {vs us : List Value} (e : (some { cls := c, data := .seq vs.toArray } : Option Obj) = some { cls := c', data := .seq us.toArray }) : c = c' ∧ vs = us := by
  have e1 := Option.some.inj e
  have e2 : c = c' := congrArg Obj.cls e1
  have e3 : Data.seq vs.toArray = Data.seq us.toArray := congrArg Obj.data e1
  injection e3 with e4
  refine ⟨e2, ?_⟩
  have e5 := congrArg Array.toList e4
  simpa using e5
theorem argL (KX : K.In h) (ar : ∀ a ∈ A, ArgOb h A a) {a : Addr} {vs : List Value} (ha : a ∈ A) (e : h.get? a = some { cls := .type "list", data := .seq vs.toArray }) : (∀ u ∈ vs, OkU A u) ∧ SqL K (argH K h A) a (vs.map toV) := by
  obtain ⟨us, h1, h2, h3⟩ := ar a ha
  have hu : us = vs := by
    rcases h3 with q | q
    · rw [e] at q
      exact (seq_inj q).2.symm
    · rw [e] at q
      exact absurd (Value.type.inj (seq_inj q).1) (by decide)
  subst hu
  refine ⟨h2, ?_⟩
  cases hk : K.lookup a with
  | none => exact .inl (.inr ⟨_, by rw [argH_at ha hk e, hoOf_lst]⟩)
  | some o =>
    have e2 := KX a o hk
    rw [e] at e2
    obtain rfl := Option.some.inj e2
    exact .inr ⟨_, us.toArray, _, hk, rfl, rfl, rfl, by rw [List.size_toArray]; exact h1, by simpa using vals_toV h2⟩
theorem argT (KX : K.In h) (ar : ∀ a ∈ A, ArgOb h A a) {a : Addr} {vs : List Value} (ha : a ∈ A) (e : h.get? a = some { cls := .type "tuple", data := .seq vs.toArray }) : (∀ u ∈ vs, OkU A u) ∧ SqT K (argH K h A) a (vs.map toV) := by
  obtain ⟨us, h1, h2, h3⟩ := ar a ha
  have hu : us = vs := by
    rcases h3 with q | q
    · rw [e] at q
      exact absurd (Value.type.inj (seq_inj q).1) (by decide)
    · rw [e] at q
      exact (seq_inj q).2.symm
  subst hu
  refine ⟨h2, ?_⟩
  cases hk : K.lookup a with
  | none => exact .inl (.inr ⟨_, by rw [argH_at ha hk e, hoOf_tup]⟩)
  | some o =>
    have e2 := KX a o hk
    rw [e] at e2
    obtain rfl := Option.some.inj e2
    exact .inr ⟨_, us.toArray, _, hk, rfl, rfl, by rw [List.size_toArray]; exact h1, by simpa using vals_toV h2⟩
mutual
theorem dw_one {Pm : Params} (KX : K.In h) (ar : ∀ a ∈ A, ArgOb h A a) : ∀ (d : WData) (v : Value), Well Pm h v d → plW d = true → OkU A v → Dw K (argH K h A) (toV v) d
  | .none, _, x, _, _ => by
    cases x
    exact .non
  | .bool b, _, x, _, _ => by
    cases x
    exact .bl b
  | .int i, _, x, _, _ => by
    cases x
    exact .int i
  | .str s, _, x, _, _ => by
    cases x
    exact .str s
  | .bytes b, _, x, _, _ => by
    cases x
    have z := Dw.byt (K := K) (H := argH K h A) b.toArray
    exact z
  | .list ds, _, x, p, hu => by
    obtain ⟨a, vs, rfl, ho, hall⟩ := well_list x
    obtain ⟨h2, hs⟩ := argL KX ar hu ho
    exact .lst hs (dw_all KX ar ds _ hall p h2)
  | .tuple ds, _, x, p, hu => by
    obtain ⟨a, vs, rfl, ho, hall⟩ := well_tuple x
    obtain ⟨h2, hs⟩ := argT KX ar hu ho
    exact .tup hs (dw_all KX ar ds _ hall p h2)
  | .float _, _, _, p, _ => Bool.noConfusion (show false = true from p)
  | .dict _, _, _, p, _ => Bool.noConfusion (show false = true from p)
  | .bytearray _, _, _, p, _ => Bool.noConfusion (show false = true from p)
  | .set _, _, _, p, _ => Bool.noConfusion (show false = true from p)
  | .frozenset _, _, _, p, _ => Bool.noConfusion (show false = true from p)
  | .obj _ _, _, _, p, _ => Bool.noConfusion (show false = true from p)
theorem dw_all {Pm : Params} (KX : K.In h) (ar : ∀ a ∈ A, ArgOb h A a) : ∀ (ds : List WData) (vs : List Value), WellAll Pm h vs ds → plWs ds = true → (∀ u ∈ vs, OkU A u) → DwAll K (argH K h A) (vs.map toV) ds
  | [], _, x, _, _ => by
    cases x
    exact .nil
  | d :: ds, _, x, p, hu => by
    obtain ⟨v, vs, rfl, x1, x2⟩ := well_cons x
    have q : plW d = true ∧ plWs ds = true := Bool.and_eq_true_iff.mp p
    exact .cons (dw_one KX ar d v x1 q.1 (hu _ (List.mem_cons_self ..))) (dw_all KX ar ds vs x2 q.2 fun u m => hu u (List.mem_cons_of_mem _ m))
end
end
theorem spec_call {P : Program} {w : World} {K : PySem.W.Frag} {mg mb : Str → Option Value} {CX : CXT} {k : Nat} {fa : Addr} {fd : FuncData} {ps : List Str} {sp : Sp} {s₁ : Shared} {vals : List Value} {ds : List WData} {R : PySem.W.WRecords} {cl : Str → Option Addr} {d0 : WData}
    (KX : K.In s₁.heap) (hns : s₁.heap.Ns mainGlobals mg) (hb : s₁.heap.Ns builtinsNs mb) (hbb : ∀ x : Str, x ≠ "__name__" → mb x = bootBuiltins x) (hlim : s₁.heap.NoLimit) (hg : s₁.gens = #[])
    (hwl : WellAll w.params s₁.heap vals ds) (hpl : plWs ds = true) (hwt : ∀ d ∈ ds, d.weight ≤ 1048576) (hr : Room k callerA)
    (F : ∀ base : Heap, K.In base → base.Ns mainGlobals mg → FnOk P w K mg base CX k fa fd ps sp) (hbind : ∀ (s : Shared) (us : List Value), us.length = ps.length → BindsTo s fd ⟨us, []⟩ (ps.zip us)) (hlen : ds.length = ps.length)
    (hsp : ∀ (H : Hp) (xs : List V), OnlyF H → DwAll K H xs ds → sp xs H (fun v H' => Dw K H' v d0) fun _ _ _ => False)
    (hCX : ∀ H e s', CX [] H s₁ (fun _ _ _ => False) e s' → False) :
    codeAny (model P w) callerA (.call (.ref fa) ⟨vals, []⟩) (fun r s' => ∃ u as, r = .ok (.ret u) ∧ ReadsW R cl s'.heap u d0 as ∧ OldK s₁.heap s'.heap ∧ s'.os = s₁.os ∧ AllBare s'.gens) s₁ := by
  obtain ⟨A, ho, ar⟩ := area_all ds vals hwl hpl hwt
  have hO : OnlyF (argH K s₁.heap A) := argH_only ar
  have hok : HOk P w (argH K s₁.heap A) s₁.heap := argH_ok ar
  have hS := dw_all KX ar ds vals hwl hpl ho
  have hV := vals_toV ho
  have hK : ∀ b u, argH K s₁.heap A b = some u → K.lookup b = none := fun b u q => (argH_is ar q).1
  have noA : ∀ {b : Addr} {o : Obj} {es : Array DictEntry} {ep : Nat}, s₁.heap.get? b = some o → o.data = .dict es ep → argH K s₁.heap A b = none := fun {b o es ep} e d => by
    cases q : argH K s₁.heap A b with
    | none => rfl
    | some u =>
      obtain ⟨_, vs, _, _, ⟨e2, _⟩ | ⟨e2, _⟩⟩ := argH_is ar q
      · rw [e2] at e
        cases e
        have d' : Data.seq vs.toArray _ = Data.dict es ep := d
        cases d'
      · rw [e2] at e
        cases e
        have d' : Data.seq vs.toArray _ = Data.dict es ep := d
        cases d'
  generalize argH K s₁.heap A = H at hO hok hS hK noA
  have base_of : ∀ {b : Addr} {o : Obj}, s₁.heap.get? b = some o → H b = none → (hidT s₁.heap H).get? b = some o := fun e n => hidT_get e n
  have nsK : ∀ {b : Addr} {m : Str → Option Value}, s₁.heap.Ns b m → (hidT s₁.heap H).Ns b m := fun {b m} ⟨o, es, ep, e, d, r⟩ => ⟨o, es, ep, base_of e (noA e d), d, r⟩
  have nK : ∀ b o, K.lookup b = some o → H b = none := fun b o e => by
    cases q : H b with
    | none => rfl
    | some u =>
      rw [hK b u q] at e
      cases e
  have hKb : K.In (hidT s₁.heap H) := fun b o e => base_of (KX b o e) (nK b o e)
  have hM : Mod K mg (hidT s₁.heap H) := ⟨hKb, nsK hns, ⟨mb, nsK hb, hbb⟩, let ⟨mc, h1, h2⟩ := hlim; ⟨mc, nsK h1, h2⟩⟩
  have e0 : Env0 P w K mg (hidT s₁.heap H) callerA [] s₁ H := ⟨rfl, hM, fun b o e => of_hidT e, Nat.le_of_eq (hidT_size _ _), trivial, fun b hb => absurd (show b ∈ ([] : List Addr) from hb) (by simp), hok, .of_eq hg⟩
  have hl : vals.length = ps.length := by rw [wellAll_len hwl]; exact hlen
  refine codeAny_mono ((F _ hKb (nsK hns)).run callerA [] s₁ H ⟨vals, []⟩ vals (vals.map toV) _ _ hr e0 (hbind s₁ vals hl) hV (hsp H _ hO hS)) fun r s' x => ?_
  cases r with
  | error e => exact (hCX H e s' x).elim
  | ok fl =>
    cases fl with
    | next => exact False.elim x
    | brk => exact False.elim x
    | cont => exact False.elim x
    | ret u =>
      obtain ⟨v, H', os, bare, un, hok', r', q⟩ := x
      have kept : ∀ b o, s₁.heap.get? b = some o → s'.heap.get? b = some o := fun b o e => by
        cases q2 : H b with
        | none => exact un.keep b o e q2 (by intro z; exact absurd (show b ∈ ([] : List Addr) from z) (by simp)) (by simp)
        | some u2 =>
          rcases hO b with z | ⟨ob, u3, z⟩
          · rw [q2] at z
            cases z
          · have z2 := un.frzs b ob _ z
            obtain ⟨e1, _⟩ := hok b _ z
            obtain ⟨e2, _⟩ := hok' b _ z2
            rw [e] at e1
            cases e1
            exact e2
      have KX' : K.In s'.heap := fun b o e => kept b o (KX b o e)
      obtain ⟨as, hrd⟩ := Dw.reads (R := R) (cl := cl) hok' KX' d0 v u q r'
      exact ⟨u, as, rfl, hrd, OldK.of_keep kept, os, bare⟩
theorem layable_weight {ds : List WData} (h : WData.layableAll ds = true) : ∀ d ∈ ds, d.weight ≤ 1048576 := fun d hd =>
  (PySem.W.layableW_iff.mp (List.all_eq_true.mp h d hd)).2.2
theorem encAll_len : ∀ (cs : List Codec) (a : Codec.denoteAll cs), (Codec.encAll cs a).length = cs.length
  | [], _ => rfl
  | c :: cs, a => by
    show (Codec.encAll cs a.2).length + 1 = cs.length + 1
    rw [encAll_len cs a.2]
theorem walk_spec {r : OpenSpec} {k : Nat} {q : Program} {loose : List Str} {XP : (Str → Option Value) → Heap → Prop} {YP : World → Heap → Prop} {d : DefRec} {K : Params → PySem.W.Frag} {CX : World → CXT} {ps : List Str} {sp : World → Sp}
    (hwell : r.wellSaid = true) (hdf : d.params.defaults = []) (hlen : r.args.length = ps.length) (hr : Room k callerA)
    (hY : ∀ (w : World) (h : Heap), YP w h → (K w.params).In h)
    (F : ∀ (w : World) (mg : Str → Option Value) (fa : Addr) (h : Heap), YP w h → (K w.params).In h → h.Ns mainGlobals mg → mg d.name = some (.ref fa) →
      ∃ fd : FuncData, (∀ (s : Shared) (us : List Value), us.length = ps.length → BindsTo s fd ⟨us, []⟩ (ps.zip us)) ∧
        ∀ base : Heap, (K w.params).In base → base.Ns mainGlobals mg → FnOk r.prog w (K w.params) mg base (CX w) k fa fd ps (sp w))
    (hsp : ∀ (w : World) (H : Hp) (xs : List V) (a : Codec.denoteAll r.args), OnlyF H → Codec.withinAll r.args a = true → Codec.app r.args r.asked a = true → DwAll (K w.params) H xs (Codec.encAll r.args a) →
      sp w xs H (fun v H' => Dw (K w.params) H' v (r.ret.enc (Codec.app r.args r.f a))) fun _ _ _ => False)
    (hCX : ∀ (w : World) (H : Hp) (s : Shared) (e : Value) (s' : Shared), CX w [] H s (fun _ _ _ => False) e s' → False) :
    PySem.W.WalkOS q loose XP YP r d [] (fun f vs => PySem.call f vs) := by
  intro w s_0 s₁ mg mb G Y fa o pm cd doc dV kV ho hd hcd hD hmg hg args vals as hpre hlay hrd hwl hlo
  obtain ⟨a, e1, e2⟩ := PySem.W.os_pre_some hpre
  obtain ⟨e3, hwi⟩ := Codec.encAll_of_decAll r.args args a e1
  subst e3
  have KX := hY w _ Y
  obtain ⟨fd, hb, hF⟩ := F w mg fa _ Y KX G.T.g hmg
  refine PySem.W.enter_call (codeAny_mono (spec_call (R := []) (cl := classAt s_0.heap) (d0 := r.ret.enc (Codec.app r.args r.f a)) KX G.T.g G.T.b G.T.builtins G.T.nolimit hg hwl (pl_encAll _ _) (layable_weight hlay) hr hF hb (by rw [encAll_len]; exact hlen)
    (fun H xs hO hS => hsp w H xs a hO hwi e2 hS) fun H e s' => hCX w H s₁ e s') fun r' s' hq => ?_)
  obtain ⟨u, as', rfl, h1, h2, h3, h4⟩ := hq
  exact ⟨.inl ⟨u, _, as', rfl, fun _ => rfl, h1, (OpenSpec.post_iff hwell hwi _ _).mpr rfl, fun z => Bool.noConfusion (show false = true from z)⟩, h2, h3, h4⟩
theorem walk_specK {r : OpenSpec} {k : Nat} {q : Program} {loose : List Str} {XP : (Str → Option Value) → Heap → Prop} {YP : World → Heap → Prop} {d : DefRec} {K : Params → PySem.W.Frag} {CX : CXT} {ps : List Str} {sp : PySem.W.Frag → Sp}
    (hwell : r.wellSaid = true) (hdf : d.params.defaults = []) (hlen : r.args.length = ps.length) (hr : Room k callerA)
    (hY : ∀ (w : World) (h : Heap), YP w h → (K w.params).In h)
    (F : ∀ (w : World) (mg : Str → Option Value) (fa : Addr) (h : Heap), YP w h → (K w.params).In h → h.Ns mainGlobals mg → mg d.name = some (.ref fa) →
      ∃ fd : FuncData, (∀ (s : Shared) (us : List Value), us.length = ps.length → BindsTo s fd ⟨us, []⟩ (ps.zip us)) ∧
        ∀ base : Heap, (K w.params).In base → base.Ns mainGlobals mg → FnOk r.prog w (K w.params) mg base CX k fa fd ps (sp (K w.params)))
    (hsp : ∀ (K : PySem.W.Frag) (H : Hp) (xs : List V) (a : Codec.denoteAll r.args), OnlyF H → Codec.withinAll r.args a = true → Codec.app r.args r.asked a = true → DwAll K H xs (Codec.encAll r.args a) →
      sp K xs H (fun v H' => Dw K H' v (r.ret.enc (Codec.app r.args r.f a))) fun _ _ _ => False)
    (hCX : ∀ (H : Hp) (s : Shared) (e : Value) (s' : Shared), CX [] H s (fun _ _ _ => False) e s' → False) :
    PySem.W.WalkOS q loose XP YP r d [] (fun f vs => PySem.call f vs) :=
  walk_spec (K := K) (CX := fun _ => CX) (sp := fun w => sp (K w.params)) hwell hdf hlen hr hY F (fun w H xs a h1 h2 h3 h4 => hsp (K w.params) H xs a h1 h2 h3 h4) fun _ H s e s' => hCX H s e s'
end L2
namespace Mx
open PySem
open Sem (wp)
end Mx
namespace L2
open PySem PySem.Spec PyProof.Rows
section
variable {X : Cx}
def CShlB (i j : Int) : Prop := 0 ≤ j ∧ (Builtin.Int.intBits i : Int) + j ≤ 2 ^ 27
theorem op_shlB : OpR X (binaryOp .LShift) (rI CShlB fun i j => .int (i * 2 ^ j.toNat)) := opI fun _ _ _ _ _ _ _ hc q => PyProof.Rows.lshift_int hc.1 hc.2 q
end
end L2
namespace PySem
open Sem (wp)
namespace Zt
section
variable {prog : Program} {w : World} {A : Around} {E : Value → Shared → Prop} {s : Shared}
theorem nextItem {j t : Addr} {n : Nat} {ys} {y : Value} {Q : Value → Shared → Prop} (hj : s.heap.IsTupleIter j t n) (ht : s.heap.IsTuple t ys) (hy : ys[n]? = some y)
    (k : ∀ h', h'.IsTupleIter j t (n + 1) → Heap.SameBut j s.heap h' → Q y { s with heap := h' }) : wpAny (model prog w) A (Builtin.SmallTypes.nextOf (.ref j)) Q E s := by
  obtain ⟨o, go, gc, gd⟩ := id hj
  obtain ⟨ot, gt, _, nt, gdt⟩ := ht
  unfold Builtin.SmallTypes.nextOf
  refine wpAny_bind (wpAny_callSpecial?_slot (name := Str.ofString "__next__") hj.typeIs F.slot_tuple_iterator_next (wpAny_call_entry F.slot_tuple_iterator_next hj.typeIs F.entry_tuple_iterator_next ?_ (F.args_tuple_iterator_next_1 _)))
  show wpAny _ _ (field (.ref j) 0 >>= _) _ _ s
  refine wpAny_bind (wpAny_field go gd (x := .ref t) rfl ?_)
  show wpAny _ _ (if (Value.ref t == Value.none) = true then _ else _) _ _ s
  rw [if_neg (by intro z; cases z)]
  show wpAny _ _ (field (.ref j) 1 >>= _) _ _ s
  refine wpAny_bind (wpAny_field go gd (x := .int n 0) rfl ?_)
  show wpAny _ _ (seqItems? (.ref t) >>= _) _ _ s
  refine wpAny_bind (wpAny_seqItems gt gdt ?_)
  simp only [Int.toNat_natCast, hy]
  refine wpAny_bind (wpAny_setField go gd (by simp) (wpAny_pure ⟨y, rfl, wpAny_pure (k _ ?_ (Heap.SameBut.update ..))⟩))
  exact ⟨_, Heap.get?_update_self _ go (Obj.isFreed_of_fields (Obj.data_mapFields gd _)), (Obj.cls_mapFields ..).trans gc, by rw [Obj.data_mapFields gd]; simp [rawInt]⟩
theorem nextEnd {j t : Addr} {n : Nat} {ys} {Q : Value → Shared → Prop} (hh : A.handled = none) (hj : s.heap.IsTupleIter j t n) (ht : s.heap.IsTuple t ys) (hy : ys[n]? = none)
    (k : ∀ h' e, Heap.ExtBut j s.heap h' → (∃ o, h'.get? e = some o ∧ o.cls = .type "StopIteration") → E (.ref e) { s with heap := h' }) : wpAny (model prog w) A (Builtin.SmallTypes.nextOf (.ref j)) Q E s := by
  obtain ⟨o, go, gc, gd⟩ := id hj
  obtain ⟨ot, gt, _, nt, gdt⟩ := ht
  unfold Builtin.SmallTypes.nextOf
  refine wpAny_bind (wpAny_callSpecial?_slot (name := Str.ofString "__next__") hj.typeIs F.slot_tuple_iterator_next (wpAny_call_entry F.slot_tuple_iterator_next hj.typeIs F.entry_tuple_iterator_next ?_ (F.args_tuple_iterator_next_1 _)))
  show wpAny _ _ (field (.ref j) 0 >>= _) _ _ s
  refine wpAny_bind (wpAny_field go gd (x := .ref t) rfl ?_)
  show wpAny _ _ (if (Value.ref t == Value.none) = true then _ else _) _ _ s
  rw [if_neg (by intro z; cases z)]
  show wpAny _ _ (field (.ref j) 1 >>= _) _ _ s
  refine wpAny_bind (wpAny_field go gd (x := .int n 0) rfl ?_)
  show wpAny _ _ (seqItems? (.ref t) >>= _) _ _ s
  refine wpAny_bind (wpAny_seqItems gt gdt ?_)
  simp only [Int.toNat_natCast, hy]
  refine wpAny_bind (wpAny_rule (wpAny_bind (wpAny_setField go gd (by simp) ?_)))
  show wpAny _ _ (newExc (.type "StopIteration") [] >>= _) _ _ _
  refine wpAny_bind ?_
  simp only [newExc, newTuple]
  refine wpAny_bind (wpAny_newObj_type ?_ (by size_fits))
  refine wpAny_bind (m := firstArgMember _ _) (wpAny_of_eq (a := Value.none) (by first | rfl | (simp only [firstArgMember]; rfl)) ?_)
  refine wpAny_newObj_type ?_ (by size_fits)
  simp only [raiseNew]
  refine wpAny_bind (wpAny_handled ?_)
  first | rw [show A.in1.handled = none from hh] | rw [hh]
  refine wpAny_bind (wpAny_pure (wpAny_throw ?_))
  exact k _ _ (((Heap.SameBut.update ..).extBut.push _).push _) ⟨_, Heap.get?_push_size _ rfl, rfl⟩
theorem both {z I O i j l t : Addr} {n m : Nat} {xs ys : Array Value} {x y a b : Value} {Q : Value → Shared → Prop} (D : ZipApart z I O i j l t) (qz : IsZip s.heap z I O .none) (qI : IsPair s.heap I (.ref i) (.ref j)) (qO : IsPair s.heap O a b)
    (q1 : s.heap.IsListIter i l n) (q2 : s.heap.IsTupleIter j t m) (ql : s.heap.IsList l xs) (qt : s.heap.IsTuple t ys) (hx : xs[n]? = some x) (hy : ys[m]? = some y)
    (k : ∀ h', IsZip h' z I O (rawInt s.heap.objs.size) → IsPair h' O x y → h'.IsListIter i l (n + 1) → h'.IsTupleIter j t (m + 1) → IsPair h' s.heap.objs.size x y → h'.objs.size = s.heap.objs.size + 1 →
      (∀ c o, c ≠ z → c ≠ O → c ≠ i → c ≠ j → s.heap.get? c = some o → h'.get? c = some o) → Q (.ref s.heap.objs.size) { s with heap := h' }) :
    wpAny (model prog w) A (Builtin.«zip.__next__» ⟨[.ref z], []⟩) (fun fin s' => ∃ v, fin = .done (.ret v) ∧ Q v s') E s := by
  show wpAny _ _ (field (.ref z) 2 >>= _) _ _ _
  refine wpAny_bind (wpAny_field qz rfl (x := .bool false) rfl ?_)
  show wpAny _ _ (field (.ref z) 3 >>= _) _ _ _
  refine wpAny_bind (wpAny_field qz rfl (x := .ref I) rfl ?_)
  refine wpAny_bind (wpAny_seqItems qI rfl ?_)
  show wpAny _ _ (Builtin.SmallTypes.ownedTupleIsFree (.ref z) >>= _) _ _ _
  refine wpAny_bind ?_
  unfold Builtin.SmallTypes.ownedTupleIsFree
  refine wpAny_bind (wpAny_field qz rfl (x := .none) rfl (wpAny_pure ?_))
  simp only [if_true]
  refine wpAny_bind (wpAny_rule ?_)
  refine wpAny_bind (wpAny_field qz rfl (x := .ref O) rfl ?_)
  refine wpAny_bind (wpAny_setField_rec qz (by simp) fun h1 qz1 s1 => ?_)
  replace qz1 : IsZip h1 z I O .ellipsis := qz1
  refine wpAny_bind ?_
  simp only [List.forIn_cons, List.forIn_nil, List.zipIdx_cons, List.zipIdx_nil]
  refine wpAny_bind (wpAny_bind (wpAny_onRaise ?_))
  show wpAny _ _ (Builtin.SmallTypes.nextOf (.ref i) >>= _) _ _ _
  refine wpAny_bind (wpAny_nextOf_list_item (q1.extBut s1.extBut D.i1z) (ql.extBut s1.extBut D.l1z) hx fun h2 q12 s2 => wpAny_pure ?_)
  have qO2 : IsPair h2 O a b := s2.extBut _ _ D.TOi1 (s1.extBut _ _ D.TOz qO)
  refine wpAny_bind (wpAny_seqItems qO2 rfl ?_)
  refine wpAny_bind (wpAny_updateSeq_pair qO2 fun h3 qO3 s3 => ?_)
  replace qO3 : IsPair h3 O x b := qO3
  refine wpAny_bind (wpAny_letGo (wpAny_pure ?_))
  refine wpAny_bind (wpAny_bind (wpAny_onRaise ?_))
  show wpAny _ _ (Builtin.SmallTypes.nextOf (.ref j) >>= _) _ _ _
  refine wpAny_bind (nextItem (((q2.extBut s1.extBut D.i2z).extBut s2.extBut D.i12.symm).extBut s3.extBut D.TOi2.symm) (((qt.extBut s1.extBut D.l2z).extBut s2.extBut D.l2i1).extBut s3.extBut D.l2TO) hy fun h4 q24 s4 => wpAny_pure ?_)
  have qO4 : IsPair h4 O x b := s4.extBut _ _ D.TOi2 qO3
  refine wpAny_bind (wpAny_seqItems qO4 rfl ?_)
  refine wpAny_bind (wpAny_updateSeq_pair qO4 fun h5 qO5 s5 => ?_)
  replace qO5 : IsPair h5 O x y := qO5
  refine wpAny_bind (wpAny_letGo (wpAny_pure (wpAny_pure ?_)))
  refine wpAny_bind (wpAny_seqItems qO5 rfl ?_)
  refine wpAny_bind (wpAny_newTuple ?_)
  have hsz : h5.objs.size = s.heap.objs.size := by rw [s5.1, s4.1, s3.1, s2.1, s1.1]
  have qz5 : IsZip h5 z I O .ellipsis := s5.extBut _ _ D.TOz.symm (s4.extBut _ _ D.i2z.symm (s3.extBut _ _ D.TOz.symm (s2.extBut _ _ D.i1z.symm qz1)))
  have old : ∀ c o, c ≠ z → c ≠ O → c ≠ i → c ≠ j → s.heap.get? c = some o → h5.get? c = some o := fun c o c1 c2 c3 c4 e => s5.extBut _ _ c2 (s4.extBut _ _ c4 (s3.extBut _ _ c2 (s2.extBut _ _ c3 (s1.extBut _ _ c1 e))))
  have q15 : h5.IsListIter i l (n + 1) := ((q12.extBut s3.extBut D.TOi1.symm).extBut s4.extBut D.i12).extBut s5.extBut D.TOi1.symm
  have q25 : h5.IsTupleIter j t (m + 1) := q24.extBut s5.extBut D.TOi2.symm
  have zl : z < h5.objs.size := Heap.lt_size qz5
  show wpAny _ _ (Builtin.SmallTypes.ownedTupleHandOut (.ref z) (.ref h5.objs.size) >>= _) _ _ _
  refine wpAny_bind ?_
  unfold Builtin.SmallTypes.ownedTupleHandOut
  have qz6 : IsZip (h5.push { cls := .type "tuple", data := .seq #[x, y] }) z I O .ellipsis := Heap.get?_push_of_some _ qz5
  refine wpAny_bind (wpAny_setField_rec qz6 (by simp) fun h7 qz7 s7 => ?_)
  replace qz7 : IsZip h7 z I O (rawInt h5.objs.size) := qz7
  refine wpAny_setField_rec qz7 (by simp) fun h8 qz8 s8 => ?_
  replace qz8 : IsZip h8 z I O (rawInt h5.objs.size) := qz8
  have up : ∀ c o, c ≠ z → h5.get? c = some o → h8.get? c = some o := fun c o c1 e => s8.extBut _ _ c1 (s7.extBut _ _ c1 (Heap.get?_push_of_some _ e))
  have qT : IsPair h8 h5.objs.size x y := s8.extBut _ _ (Nat.ne_of_gt zl) (s7.extBut _ _ (Nat.ne_of_gt zl) (Heap.get?_push_size _ rfl))
  have sz8 : h8.objs.size = h5.objs.size + 1 := by rw [s8.1, s7.1, Heap.size_push]
  rw [hsz] at qz8 qT sz8
  refine wpAny_pure ⟨_, rfl, ?_⟩
  show Q (.ref h5.objs.size) _
  rw [hsz]
  obtain ⟨oj, ej, rj⟩ := q25
  exact k h8 qz8 (up _ _ D.TOz qO5) (q15.at fun o e => up _ o D.i1z e) ⟨oj, up _ _ D.i2z ej, rj⟩ qT sz8 fun c o c1 c2 c3 c4 e => up c o c1 (old c o c1 c2 c3 c4 e)
theorem stop {z I O i j l t : Addr} {n m : Nat} {xs ys : Array Value} {a b : Value} {Q : Fin → Shared → Prop} (hh : A.handled = none) (D : ZipApart z I O i j l t) (qz : IsZip s.heap z I O .none) (qI : IsPair s.heap I (.ref i) (.ref j)) (qO : IsPair s.heap O a b)
    (q1 : s.heap.IsListIter i l n) (q2 : s.heap.IsTupleIter j t m) (ql : s.heap.IsList l xs) (qt : s.heap.IsTuple t ys) (hend : xs[n]? = none ∨ ys[m]? = none)
    (k : ∀ h' e, (∀ c o, c ≠ z → c ≠ O → c ≠ i → c ≠ j → s.heap.get? c = some o → h'.get? c = some o) → (∃ o, h'.get? e = some o ∧ o.cls = .type "StopIteration") → E (.ref e) { s with heap := h' }) :
    wpAny (model prog w) A (Builtin.«zip.__next__» ⟨[.ref z], []⟩) Q E s := by
  show wpAny _ _ (field (.ref z) 2 >>= _) _ _ _
  refine wpAny_bind (wpAny_field qz rfl (x := .bool false) rfl ?_)
  show wpAny _ _ (field (.ref z) 3 >>= _) _ _ _
  refine wpAny_bind (wpAny_field qz rfl (x := .ref I) rfl ?_)
  refine wpAny_bind (wpAny_seqItems qI rfl ?_)
  show wpAny _ _ (Builtin.SmallTypes.ownedTupleIsFree (.ref z) >>= _) _ _ _
  refine wpAny_bind ?_
  unfold Builtin.SmallTypes.ownedTupleIsFree
  refine wpAny_bind (wpAny_field qz rfl (x := .none) rfl (wpAny_pure ?_))
  simp only [if_true]
  refine wpAny_bind (wpAny_rule ?_)
  refine wpAny_bind (wpAny_field qz rfl (x := .ref O) rfl ?_)
  refine wpAny_bind (wpAny_setField_rec qz (by simp) fun h1 qz1 s1 => ?_)
  replace qz1 : IsZip h1 z I O .ellipsis := qz1
  refine wpAny_bind ?_
  simp only [List.forIn_cons, List.forIn_nil, List.zipIdx_cons, List.zipIdx_nil]
  refine wpAny_bind (wpAny_bind (wpAny_onRaise ?_))
  show wpAny _ _ (Builtin.SmallTypes.nextOf (.ref i) >>= _) _ _ _
  cases hx : xs[n]? with
  | none =>
    refine wpAny_bind (wpAny_nextOf_list_end hh (q1.extBut s1.extBut D.i1z) (ql.extBut s1.extBut D.l1z) hx fun h2 e s2 he => ?_)
    obtain ⟨oe, ge, ce⟩ := he
    have qz2 : IsZip h2 z I O .ellipsis := s2 _ _ D.i1z.symm qz1
    have ez : e ≠ z := fun q => by subst q; rw [qz2] at ge; cases ge; simp at ce
    exact wpAny_setField_rec qz2 (by simp) fun h3 _ s3 => k h3 e (fun c o c1 _ c3 _ q => s3.extBut _ _ c1 (s2 _ _ c3 (s1.extBut _ _ c1 q))) ⟨oe, s3.extBut _ _ ez ge, ce⟩
  | some x =>
    have hy : ys[m]? = none := by
      rcases hend with q | q
      · rw [hx] at q; cases q
      · exact q
    refine wpAny_bind (wpAny_nextOf_list_item (q1.extBut s1.extBut D.i1z) (ql.extBut s1.extBut D.l1z) hx fun h2 q12 s2 => wpAny_pure ?_)
    have qO2 : IsPair h2 O a b := s2.extBut _ _ D.TOi1 (s1.extBut _ _ D.TOz qO)
    refine wpAny_bind (wpAny_seqItems qO2 rfl ?_)
    refine wpAny_bind (wpAny_updateSeq_pair qO2 fun h3 qO3 s3 => ?_)
    refine wpAny_bind (wpAny_letGo (wpAny_pure ?_))
    refine wpAny_bind (wpAny_bind (wpAny_onRaise ?_))
    show wpAny _ _ (Builtin.SmallTypes.nextOf (.ref j) >>= _) _ _ _
    refine wpAny_bind (nextEnd hh (((q2.extBut s1.extBut D.i2z).extBut s2.extBut D.i12.symm).extBut s3.extBut D.TOi2.symm) (((qt.extBut s1.extBut D.l2z).extBut s2.extBut D.l2i1).extBut s3.extBut D.l2TO) hy fun h4 e s4 he => ?_)
    obtain ⟨oe, ge, ce⟩ := he
    have qz4 : IsZip h4 z I O .ellipsis := s4 _ _ D.i2z.symm (s3.extBut _ _ D.TOz.symm (s2.extBut _ _ D.i1z.symm qz1))
    have ez : e ≠ z := fun q => by subst q; rw [qz4] at ge; cases ge; simp at ce
    exact wpAny_setField_rec qz4 (by simp) fun h5 _ s5 => k h5 e (fun c o c1 c2 c3 c4 q => s5.extBut _ _ c1 (s4 _ _ c4 (s3.extBut _ _ c2 (s2.extBut _ _ c3 (s1.extBut _ _ c1 q))))) ⟨oe, s5.extBut _ _ ez ge, ce⟩
theorem nextOne {z I O i j l t : Addr} {n m : Nat} {xs ys : Array Value} {x y a b : Value} {Q : Option Value → Shared → Prop} (D : ZipApart z I O i j l t) (qz : IsZip s.heap z I O .none) (qI : IsPair s.heap I (.ref i) (.ref j)) (qO : IsPair s.heap O a b)
    (q1 : s.heap.IsListIter i l n) (q2 : s.heap.IsTupleIter j t m) (ql : s.heap.IsList l xs) (qt : s.heap.IsTuple t ys) (hx : xs[n]? = some x) (hy : ys[m]? = some y)
    (k : ∀ h', IsZip h' z I O (rawInt s.heap.objs.size) → IsPair h' O x y → h'.IsListIter i l (n + 1) → h'.IsTupleIter j t (m + 1) → IsPair h' s.heap.objs.size x y → h'.objs.size = s.heap.objs.size + 1 →
      (∀ c o, c ≠ z → c ≠ O → c ≠ i → c ≠ j → s.heap.get? c = some o → h'.get? c = some o) → Q (some (.ref s.heap.objs.size)) { s with heap := h' }) : wpAny (model prog w) A (pyNext (.ref z)) Q E s := by
  have ty : s.TypeIs (.ref z) "zip" := ⟨_, qz, rfl⟩
  unfold pyNext
  exact wpAny_bind (wpAny_attempt (wpAny_callSpecial?_slot (name := Str.ofString "__next__") ty F.slot_zip_next (wpAny_call_entry F.slot_zip_next ty F.entry_zip_next
    (both D qz qI qO q1 q2 ql qt hx hy fun h' a1 a2 a3 a4 a5 a6 a7 => wpAny_pure (k h' a1 a2 a3 a4 a5 a6 a7)) (F.args_zip_next_1 _))))
theorem nextNone {z I O i j l t : Addr} {n m : Nat} {xs ys : Array Value} {a b : Value} {Q : Option Value → Shared → Prop} (hh : A.handled = none) (D : ZipApart z I O i j l t) (qz : IsZip s.heap z I O .none) (qI : IsPair s.heap I (.ref i) (.ref j)) (qO : IsPair s.heap O a b)
    (q1 : s.heap.IsListIter i l n) (q2 : s.heap.IsTupleIter j t m) (ql : s.heap.IsList l xs) (qt : s.heap.IsTuple t ys) (hend : xs[n]? = none ∨ ys[m]? = none)
    (k : ∀ h', (∀ c o, c ≠ z → c ≠ O → c ≠ i → c ≠ j → s.heap.get? c = some o → h'.get? c = some o) → Q none { s with heap := h' }) : wpAny (model prog w) A (pyNext (.ref z)) Q E s := by
  have ty : s.TypeIs (.ref z) "zip" := ⟨_, qz, rfl⟩
  unfold pyNext
  refine wpAny_bind (wpAny_attempt (wpAny_callSpecial?_slot (name := Str.ofString "__next__") ty F.slot_zip_next (wpAny_call_entry F.slot_zip_next ty F.entry_zip_next
    (stop hh D qz qI qO q1 q2 ql qt hend fun h' e hk he => ?_) (F.args_zip_next_1 _))))
  obtain ⟨o, ho, hc⟩ := he
  refine wpAny_bind (wpAny_isInstance (T := "StopIteration") (b := true) ⟨o, ho, hc⟩ isSubtype_stop ?_)
  exact wpAny_pure (k _ hk)
end
abbrev m1 (h : Heap) (l : Addr) : Heap := h.push { cls := .type "list_iterator", data := .fields #[.ref l, .int 0 0] }
abbrev m2 (h : Heap) (l t : Addr) : Heap := (m1 h l).push { cls := .type "tuple_iterator", data := .fields #[.ref t, .int 0 0] }
abbrev m3 (h : Heap) (l t : Addr) : Heap := (m2 h l t).push { cls := .type "tuple", data := .seq #[.ref h.objs.size, .ref (m1 h l).objs.size] }
abbrev m4 (h : Heap) (l t : Addr) : Heap := (m3 h l t).push { cls := .type "tuple", data := .seq #[.none, .none] }
abbrev m5 (h : Heap) (l t : Addr) : Heap := (m4 h l t).push { cls := .type "zip", data := .fields #[.none, .bool false, .bool false, .ref (m2 h l t).objs.size, .ref (m3 h l t).objs.size] }
theorem made (l t : Addr) (xs ys : Array Value) : Meets (Builtin.«zip.__new__» ⟨[.type "zip", .ref l, .ref t], []⟩) (fun _ R s => s.heap.IsList l xs ∧ s.heap.IsTuple t ys ∧ R (.ok (.ret (.ref (m4 s.heap l t).objs.size))) { s with heap := m5 s.heap l t }) :=
  .of_wp fun prog w A R s h => by
    obtain ⟨hp, g, d, tk, os⟩ := s
    obtain ⟨ql, qt, h⟩ := h
    have hsub := sub_zip
    have hL1 : Heap.IsList (Shared.heap ⟨hp, g, d, tk, os⟩) l xs := ql
    have hL2 : Heap.IsTuple (Shared.heap ⟨hp.push { cls := .type "list_iterator", data := .fields #[.ref l, .int 0 0] }, g, d, tk, os⟩) t ys := Heap.IsTuple.push qt _
    wp_walk using wpAny_pyIter_list hL1, wpAny_pyIter_tuple hL2
    exact ⟨_, rfl, h⟩
theorem called {prog : Program} {w : World} {A : Around} {E : Value → Shared → Prop} {s : Shared} {l t : Addr} {xs ys : Array Value} {Q : Value → Shared → Prop} (ql : s.heap.IsList l xs) (qt : s.heap.IsTuple t ys)
    (k : ∀ h', IsZip h' (s.heap.objs.size + 4) (s.heap.objs.size + 2) (s.heap.objs.size + 3) .none → IsPair h' (s.heap.objs.size + 2) (.ref s.heap.objs.size) (.ref (s.heap.objs.size + 1)) → IsPair h' (s.heap.objs.size + 3) .none .none →
      h'.IsListIter s.heap.objs.size l 0 → h'.IsTupleIter (s.heap.objs.size + 1) t 0 → h'.objs.size = s.heap.objs.size + 5 → (∀ c o, s.heap.get? c = some o → h'.get? c = some o) → Q (.ref (s.heap.objs.size + 4)) { s with heap := h' }) :
    wpAny (model prog w) A (call (.type "zip") [.ref l, .ref t]) Q E s := by
  refine callType_new F.called_zip (by decide) (F.typeCall_zip_2 _ _) (F.newCall_zip_2 _ _) (fun obj => F.args_object_init_3 obj _ _) F.entry_zip_new (made l t xs ys) ⟨ql, qt, ?_⟩
  have n1 : (m1 s.heap l).objs.size = s.heap.objs.size + 1 := Heap.size_push ..
  have n2 : (m2 s.heap l t).objs.size = s.heap.objs.size + 2 := by rw [Heap.size_push, n1]
  have n3 : (m3 s.heap l t).objs.size = s.heap.objs.size + 3 := by rw [Heap.size_push, n2]
  have n4 : (m4 s.heap l t).objs.size = s.heap.objs.size + 4 := by rw [Heap.size_push, n3]
  have n5 : (m5 s.heap l t).objs.size = s.heap.objs.size + 5 := by rw [Heap.size_push, n4]
  have up := fun (h : Heap) (o : Obj) (c : Addr) (x : Obj) (e : h.get? c = some x) => Heap.get?_push_of_some o e
  have g5 : (m5 s.heap l t).get? (m4 s.heap l t).objs.size = some _ := Heap.get?_push_size _ rfl
  have g4 : (m5 s.heap l t).get? (m3 s.heap l t).objs.size = some _ := up _ _ _ _ (Heap.get?_push_size _ rfl)
  have g3 : (m5 s.heap l t).get? (m2 s.heap l t).objs.size = some _ := up _ _ _ _ (up _ _ _ _ (Heap.get?_push_size _ rfl))
  have g2 : (m5 s.heap l t).get? (m1 s.heap l).objs.size = some _ := up _ _ _ _ (up _ _ _ _ (up _ _ _ _ (Heap.get?_push_size _ rfl)))
  have g1 : (m5 s.heap l t).get? s.heap.objs.size = some _ := up _ _ _ _ (up _ _ _ _ (up _ _ _ _ (up _ _ _ _ (Heap.get?_push_size _ rfl))))
  show _ ∧ _
  rw [n2, n3, n4] at g5
  rw [n1, n2] at g3
  rw [n3] at g4
  rw [n1] at g2
  rw [n4]
  exact ⟨⟨_, g5, rfl⟩, k _ g5 g3 g4 ⟨_, g1, rfl, rfl⟩ ⟨_, g2, rfl, rfl⟩ n5 fun c o x => up _ _ _ _ (up _ _ _ _ (up _ _ _ _ (up _ _ _ _ (up _ _ _ _ x))))⟩
end Zt
end PySem
namespace L2
open PySem PySem.Spec PyProof.Rows
def Itzt (K : PySem.W.Frag) (a b : Addr) : It :=
  ⟨fun i H => ∃ (xs ys : List V) (x y : V), SqL K H a xs ∧ SqT K H b ys ∧ xs[i]? = some x ∧ ys[i]? = some y,
    fun i H v H' => ∃ p x y, v = .ref p ∧ H p = none ∧ H' = upd H p (.tup [x, y]) ∧ (∀ xs, SqL K H a xs → xs[i]? = some x) ∧ ∀ ys, SqT K H b ys → ys[i]? = some y,
    fun i H => ∃ xs ys : List V, SqL K H a xs ∧ SqT K H b ys ∧ (xs.length ≤ i ∨ ys.length ≤ i)⟩
theorem turn_zipT {P : Program} {w : World} {K : PySem.W.Frag} {elts : List Expr} {kk : Nat} {tpos : Pos} {a b z I O i1 i2 : Addr} (D : ZipApart z I O i1 i2 a b) :
    Turn P w K (.Tuple elts kk tpos) (Itzt K a b) [z, I, O, i1, i2] z (fun i h => IsZip h z I O .none ∧ IsPair h I (.ref i1) (.ref i2) ∧ (∃ x y, IsPair h O x y) ∧ h.IsListIter i1 a i ∧ h.IsTupleIter i2 b i) where
  mem := by simp
  obj := fun i h st c hc => by
    obtain ⟨qz, qI, ⟨x, y, qO⟩, ⟨o1, e1, _, d1⟩, ⟨o2, e2, _, d2⟩⟩ := st
    have e' : c = z ∨ c = I ∨ c = O ∨ c = i1 ∨ c = i2 := by simpa using hc
    rcases e' with rfl | rfl | rfl | rfl | rfl
    · exact ⟨_, qz, fun v q => nomatch q⟩
    · exact ⟨_, qI, fun v q => nomatch q⟩
    · exact ⟨_, qO, fun v q => nomatch q⟩
    · exact ⟨o1, e1, fun v q => by rw [d1] at q; cases q⟩
    · exact ⟨o2, e2, fun v q => by rw [d2] at q; cases q⟩
  keep := fun i h h' st k => by
    obtain ⟨qz, qI, ⟨x, y, qO⟩, h1, o2, e2, r2⟩ := st
    exact ⟨k z (by simp) _ qz, k I (by simp) _ qI, ⟨x, y, k O (by simp) _ qO⟩, h1.at fun o q => k i1 (by simp) o q, o2, k i2 (by simp) _ e2, r2⟩
  item := by
    intro X hP hw hK hc i pins s σ H E II hf st hg
    subst hP hw hK
    obtain ⟨qz, qI, ⟨x0, y0, qO⟩, h1, h2⟩ := st
    obtain ⟨xs, ys, x, y, hqx, hqy, hx, hy⟩ := hg
    obtain ⟨its, rv, p, _⟩ := II.list hqx
    obtain ⟨its2, rv2, p2, _⟩ := II.tuple hqy
    obtain ⟨u, hu, ru⟩ := rv.get hx
    obtain ⟨u2, hu2, ru2⟩ := rv2.get hy
    have zl : z < s.heap.objs.size := Heap.lt_size qz
    refine Zt.nextOne D qz qI qO h1 h2 p.isList p2 (x := u) (y := u2) (by simpa using hu) (by simpa using hu2) fun h' z' O' h1' h2' hT hsz hk => ?_
    refine ⟨_, rfl, wpAny_letOwnedTupleGo_zip (s := { s with heap := h' }) z' fun h'' z'' sb => ?_⟩
    have hT2 : h''.get? s.heap.objs.size = some { cls := .type "tuple", data := .seq #[u, u2] } := (sb.2 _ (Nat.ne_of_gt zl)).trans hT
    have new : ObjOk X.prog X.w (upd H s.heap.objs.size (.tup [x, y])) h'' s.heap.objs.size (.tup [x, y]) := ⟨by show 2 ≤ sizeLine; decide, [u, u2], .cons ru (.cons ru2 .nil), ⟨_, hT2, rfl, _, rfl⟩⟩
    have I1 : Inv X pins σ (upd H s.heap.objs.size (.tup [x, y])) { s with heap := h'' } := II.turnedNew (t' := s.toks) (ch := [z, I, O, i1, i2])
      (fun c o hb q => (sb.2 c (fun q' => hb (by simp [q']))).trans (hk c o (fun q' => hb (by simp [q'])) (fun q' => hb (by simp [q'])) (fun q' => hb (by simp [q'])) (fun q' => hb (by simp [q'])) q)) hf (Nat.le_refl _) new
    refine ⟨.ref s.heap.objs.size, _, I1, rfl, ⟨_, x, y, rfl, II.hok.fresh (Nat.le_refl _), rfl, fun l hl => by rw [II.list_inj hl hqx]; exact hx, fun l hl => ?_⟩, ⟨z'', ?_, ⟨u, u2, ?_⟩, ?_, ?_⟩, fun c hcm => ?_⟩
    · rw [II.tuple_inj hl hqy]; exact hy
    · exact (sb.2 _ D.TIz).trans (hk _ _ D.TIz D.TITO D.TIi1 D.TIi2 qI)
    · exact (sb.2 _ D.TOz).trans O'
    · exact h1'.at fun o q => (sb.2 _ D.i1z).trans q
    · obtain ⟨o2, e2, r2⟩ := h2'
      exact ⟨o2, (sb.2 _ D.i2z).trans e2, r2⟩
    · have hlt : c < s.heap.objs.size := by
        have e' : c = z ∨ c = I ∨ c = O ∨ c = i1 ∨ c = i2 := by simpa using hcm
        rcases e' with q | q | q | q | q
        · rw [q]; exact zl
        · rw [q]; exact Heap.lt_size qI
        · rw [q]; exact Heap.lt_size qO
        · rw [q]; obtain ⟨_, e1, _⟩ := h1; exact Heap.lt_size e1
        · rw [q]; obtain ⟨_, e2, _⟩ := h2; exact Heap.lt_size e2
      rw [upd_ne (Nat.ne_of_lt hlt)]
      exact (hf c hcm).1
  done := by
    intro X hP hw hK hc i pins s σ H E II hf st hg
    subst hP hw hK
    obtain ⟨qz, qI, ⟨x0, y0, qO⟩, h1, h2⟩ := st
    obtain ⟨xs, ys, hqx, hqy, hend⟩ := hg
    obtain ⟨its, rv, p, _⟩ := II.list hqx
    obtain ⟨its2, rv2, p2, _⟩ := II.tuple hqy
    have l1 := rv.length
    have l2 := rv2.length
    have he : its.toArray[i]? = none ∨ its2.toArray[i]? = none := by
      rcases hend with q | q
      · exact .inl (by simp; omega)
      · exact .inr (by simp; omega)
    exact Zt.nextNone (II.ok.hd hc) D qz qI qO h1 h2 p.isList p2 he fun h' hk => ⟨rfl, II.turnedL (t' := s.toks) (ch := [z, I, O, i1, i2])
      (fun c o hb q => hk c o (fun q' => hb (by simp [q'])) (fun q' => hb (by simp [q'])) (fun q' => hb (by simp [q'])) (fun q' => hb (by simp [q'])) q) hf⟩
  self := fun A i s Q E st h => wpAny_pyIter_zip st.1 h
def iZipT (K : PySem.W.Frag) (ta : TA) : TI := fun σ H R => ta σ H fun vs H1 => ∃ a b xs ys, vs = [.ref a, .ref b] ∧ SqL K H1 a xs ∧ SqT K H1 b ys ∧ R (Itzt K a b) H1
theorem pi_zipT {X : Cx} {e e2 : Expr} {ta : TA} {p pos tpos : Pos} {elts : List Expr} {kk : Nat} (hg : Gl X "zip") (hm : X.mg "zip" = none) (ha : PA X [e, e2] ta)
    (hs : starEach [e, e2] X.env = (false, eval e X.env) :: starEach [e2] X.env := by rfl) (hpl : (backTo pos (starEach [e2] X.env)).any (·.1) = false := by rfl) :
    PI X (.Tuple elts kk tpos) (.Call (.Name "zip" p) [e, e2] [] pos) (iZipT X.K ta) := by
  intro pins s σ H R I h
  refine Call_ (ld_blt I hg hm boot_zip5 (PyProof.Rows.callWith_type1 (thn (ha pos pins s σ H _ I h) fun us s1 ⟨vs, H1, I1, r1, q1⟩ => ?_) hs hpl))
  obtain ⟨a, b, xs, ys, ex, hqx, hqy, q⟩ := q1
  subst ex
  cases r1 with
  | cons r rr =>
    cases rr with
    | cons r' rr =>
      cases rr; cases r; cases r'
      obtain ⟨its, rv, p1, _⟩ := I1.list hqx
      obtain ⟨its2, rv2, p2, _⟩ := I1.tuple hqy
      have la : a < s1.heap.objs.size := p1.lt
      have lb : b < s1.heap.objs.size := by obtain ⟨_, e2, _⟩ := id p2; exact Heap.lt_size e2
      refine Zt.called p1.isList p2 fun h' qz qI qO h1 h2 hsz hk => wpAny_pyIter_zip qz ?_
      have I2 : Inv X pins σ H1 { s1 with heap := h' } := I1.kept (t' := s1.toks) hk
      refine ⟨s1.heap.objs.size + 4, [s1.heap.objs.size + 4, s1.heap.objs.size + 2, s1.heap.objs.size + 3, s1.heap.objs.size, s1.heap.objs.size + 1], _, _, H1, rfl, I2, turn_zipT (PySem.W.ktu_apart s1.heap.objs.size a b la lb), ⟨qz, qI, ⟨_, _, qO⟩, h1, h2⟩, fun c hcm => ?_, q⟩
      have hle : s1.heap.objs.size ≤ c := by
        have e' : c = s1.heap.objs.size + 4 ∨ c = s1.heap.objs.size + 2 ∨ c = s1.heap.objs.size + 3 ∨ c = s1.heap.objs.size ∨ c = s1.heap.objs.size + 1 := by simpa using hcm
        rcases e' with z | z | z | z | z
        · rw [z]; exact Nat.le_add_right _ _
        · rw [z]; exact Nat.le_add_right _ _
        · rw [z]; exact Nat.le_add_right _ _
        · rw [z]; exact Nat.le_refl _
        · rw [z]; exact Nat.le_add_right _ _
      exact I1.fpOk hle (I1.hok.fresh hle)
theorem ixT {X : Cx} {K : PySem.W.Frag} (h : X.K = K) : IxR X (rIxT K) := by subst h; exact ix_tup
end L2
namespace L2
open PySem PySem.Spec PyProof.Rows
theorem objOk_there {P : Program} {w : World} {H : Hp} {h : Heap} {a : Addr} {o : HO} (x : ObjOk P w H h a o) : ∃ ob, h.get? a = some ob := by
  cases o with
  | lst xs => obtain ⟨_, _, _, _, e⟩ := x; exact ⟨_, e⟩
  | tup xs => obtain ⟨_, _, _, ob, e, _⟩ := x; exact ⟨ob, e⟩
  | dK kvs => obtain ⟨_, _, _, _, o, _, _, e, _⟩ := x; exact ⟨o, e⟩
  | dT kvs => obtain ⟨_, _, _, _, o, _, _, e, _⟩ := x; exact ⟨o, e⟩
  | set S n => obtain ⟨o, _, _, _, e, _⟩ := x; exact ⟨o, e⟩
  | ins C dx fs => obtain ⟨_, _, _, e, _⟩ := x; exact ⟨_, e⟩
  | own y => exact x
  | xd fs => obtain ⟨_, ⟨o, _, _, e, _⟩, _⟩ := x; exact ⟨o, e⟩
  | rng lo hi => obtain ⟨_, _, _, e⟩ := x; exact ⟨_, e⟩
  | frz ob u => obtain ⟨e, _⟩ := x; exact ⟨_, e⟩
  | tbl ps => exact ⟨_, x⟩
  | met f y => exact ⟨_, x⟩
  | ext φ => obtain ⟨_, e, _⟩ := x; exact e
theorem hok_none {P : Program} {w : World} {H : Hp} {h : Heap} (x : HOk P w H h) {a : Addr} (e : h.get? a = none) : H a = none := by
  cases q : H a with
  | none => rfl
  | some o =>
    obtain ⟨ob, z⟩ := objOk_there (x a o q)
    rw [e] at z; cases z
inductive Chn (h : Heap) (H : Hp) (av : List Addr) : Nat → Value → Prop
  | nil : Chn h H av 0 .none
  | cons {n : Nat} {a : Addr} {o : Obj} {vs : Array Value} {c : Value} : h.get? a = some o → o.data = .fields vs → vs[2]? = some c → H a = none → a ∉ av → Chn h H av n c → Chn h H av (n + 1) (.ref a)
theorem Chn.move {h h' : Heap} {H H' : Hp} {av av' : List Addr} {n : Nat} {c : Value} (x : Chn h H av n c) (k : ∀ a o vs, h.get? a = some o → o.data = .fields vs → H a = none → a ∉ av → h'.get? a = some o ∧ H' a = none ∧ a ∉ av') : Chn h' H' av' n c := by
  induction x with
  | nil => exact .nil
  | cons h1 h2 h3 h4 h5 _ ih =>
    obtain ⟨k1, k2, k3⟩ := k _ _ _ h1 h2 h4 h5
    exact .cons k1 h2 h3 k2 k3 ih
def TrV (h base : Heap) (e : Addr) (cls c fl : Value) : Prop :=
  ∃ oe vs T oT ts, h.get? e = some oe ∧ (oe.cls = cls ∧ vs[2]? = some c) ∧ oe.data = .fields vs ∧ vs[1]? = some (.ref T) ∧ base.get? T = none ∧ T ≠ e ∧ h.get? T = some oT ∧ oT.data = .fields ts ∧ ts[3]? = some fl
def OnV (base : Heap) (l : List Env) (e : Addr) (cls c fl : Value) (h : Heap) : Prop := base.StaysIn h ∧ base.get? e = none ∧ h.FunFrames base l ∧ TrV h base e cls c fl
section
variable {M : Model} {A : Around} {E : Value → Shared → Prop} {s : Shared}
theorem entryV {base : Heap} {env : Env} {outer : List Env} {L e : Addr} {oe : Obj} {vs : Array Value} {hd c : Value} {nx : Bool} {Q : Unit → Shared → Prop} (hfr : A.frames = some (env :: outer)) (hl : s.heap.FunFrames base (env :: outer)) (hf : env.frame = some L)
    (ge : s.heap.get? e = some oe) (st : base.StaysIn s.heap) (ne : base.get? e = none) (de : oe.data = .fields vs) (z1 : 1 < vs.size) (h2 : vs[2]? = some c) (k : ∀ h', OnV base (env :: outer) e oe.cls c (rawInt L) h' → s.heap.UpToSlots h' → Q () { s with heap := h' }) :
    wpAny M A (do let fo ← frameOf env; let pc ← entryPlaceOf L nx; let tb ← EntryCells.newEntry hd fo .none (rawInt L) .none pc; setField (.ref e) 1 tb) Q E s := by
  have nfr : e ∉ (env :: outer).filterMap (·.frame) := fun m => by
    obtain ⟨_, q, hq, nf⟩ := hl.mem m
    rw [ge] at hq; cases hq; exact nf vs de
  refine wpAny_bind (wpAny_frameOf_fun hfr hl hf fun g ⟨_, sg, tg⟩ => wpAny_bind (wpAny_entryPlaceOf fun pc hp => ?_))
  have e1 : g.get? e = some oe := (sg e nfr).trans ge
  have b1 : base.StaysIn g := fun b q hb => (sg b fun m => by rw [(hl.mem m).1] at hb; cases hb).trans (st b q hb)
  have Te : g.objs.size ≠ e := Nat.ne_of_gt (Heap.lt_size e1)
  unfold EntryCells.newEntry newFields
  refine wpAny_bind (wpAny_newObj_type ?_ (hp.sizeOk5 _ _ _ _ _))
  generalize hts : ([hd, Value.ref L, .none, rawInt L, .none] ++ (if pc.isEmpty then List.replicate 6 Value.none else pc)).toArray = ts
  have t3 : ts[3]? = some (rawInt L) := by rw [← hts]; simp
  have e2 : (g.push { cls := .type "traceback", data := .fields ts }).get? e = some oe := Heap.get?_push_of_some _ e1
  refine wpAny_setField e2 de z1 (k _ ?_ ?_)
  · have d3 := Obj.data_mapFields de (·.setIfInBounds 1 (Value.ref g.objs.size))
    refine ⟨fun b q hb => ?_, ne, hl.of_keeps fun b q hb nf => ?_, _, _, g.objs.size, _, ts, Heap.get?_update_self _ e2 (Obj.isFreed_of_fields d3), ⟨Obj.cls_mapFields _ _, ?_⟩, d3, by simp [z1], b1.fresh, Te, (Heap.get?_update_other _ _ (Ne.symm Te)).trans (Heap.get?_push_size _ rfl), rfl, t3⟩
    · rw [Heap.get?_update_other _ _ (fun z => by rw [← z, ne] at hb; cases hb)]
      exact Heap.get?_push_of_some _ (b1 b q hb)
    · obtain ⟨sl, hs⟩ := tg b q hb
      refine ⟨{ q with slots := sl }, ?_, rfl⟩
      rw [Heap.get?_update_other _ _ (fun z => by rw [← z, ge] at hb; cases hb; exact nf vs de)]
      exact Heap.get?_push_of_some _ hs
    · rw [Array.getElem?_setIfInBounds_ne (by decide)]; exact h2
  · intro b q hb nf
    obtain ⟨sl, hs⟩ := tg b q hb
    refine ⟨sl, ?_⟩
    rw [Heap.get?_update_other _ _ (fun z => by rw [← z, ge] at hb; cases hb; exact nf vs de)]
    exact Heap.get?_push_of_some _ hs
theorem note_first {base : Heap} {env : Env} {outer : List Env} {L e : Addr} {oe : Obj} {vs : Array Value} {c : Value} {Q : Unit → Shared → Prop} (hfr : A.frames = some (env :: outer)) (hf : env.frame = some L) (hl : s.heap.FunFrames base (env :: outer)) (ge : s.heap.get? e = some oe) (st : base.StaysIn s.heap) (ne : base.get? e = none) (de : oe.data = .fields vs) (h1 : vs[1]? = some .none) (h2 : vs[2]? = some c)
    (k : ∀ h', OnV base (env :: outer) e oe.cls c (rawInt L) h' → s.heap.UpToSlots h' → Q () { s with heap := h' }) : wpAny M A (noteFrame (.ref e) env) Q E s := by
  unfold noteFrame
  simp only [hf]
  refine wpAny_bind (wpAny_field ge de h1 ?_)
  rw [if_neg (by decide)]
  exact entryV hfr hl hf ge st ne de (Array.getElem?_eq_some_iff.mp h1).1 h2 k
theorem note_any {base : Heap} {env : Env} {outer : List Env} {L e : Addr} {cls c fl : Value} {Q : Unit → Shared → Prop} (hfr : A.frames = some (env :: outer)) (hf : env.frame = some L) (h : OnV base (env :: outer) e cls c fl s.heap)
    (k : ∀ h', OnV base (env :: outer) e cls c (rawInt L) h' → s.heap.UpToSlots h' → Q () { s with heap := h' }) : wpAny M A (noteFrame (.ref e) env) Q E s := by
  obtain ⟨st, ne, hl, oe, vs, T, oT, ts, ge, ⟨hcls, h2⟩, de, h1, nT, Te, gT, dT, h3⟩ := id h
  subst hcls
  unfold noteFrame
  simp only [hf]
  refine wpAny_bind (wpAny_field ge de h1 ?_)
  rw [if_pos (by simp)]
  refine wpAny_bind (wpAny_field gT dT h3 ?_)
  by_cases q : fl = rawInt L
  · subst q
    rw [if_pos (by simp)]
    exact wpAny_pure (k s.heap h (.refl _))
  · rw [if_neg (by simpa using q)]
    refine wpAny_bind (wpAny_setField gT dT (Array.getElem?_eq_some_iff.mp h3).1 ?_)
    have oth : ∀ b, b ≠ T → (s.heap.update T (Obj.mapFields (·.setIfInBounds 3 Value.none))).get? b = s.heap.get? b := fun b hb => Heap.get?_update_other _ _ (Ne.symm hb)
    have nrec : ∀ b o, s.heap.get? b = some o → (∀ vs, o.data ≠ .fields vs) → b ≠ T := fun b o hb hnf z => by
      rw [z, gT] at hb; cases hb; exact hnf ts dT
    refine entryV hfr (hl.of_keeps fun b o hb hnf => ⟨o, (oth b (nrec b o hb hnf)).trans hb, rfl⟩) hf ((oth e (Ne.symm Te)).trans ge)
      (fun b o hbo => (oth b fun z => by rw [z, nT] at hbo; cases hbo).trans (st b o hbo)) ne de (Array.getElem?_eq_some_iff.mp h1).1 h2 fun h' x up => k h' x fun b o hb hnf => up b o ((oth b (nrec b o hb hnf)).trans hb) hnf
theorem flight_set {base : Heap} {l : List Env} {e : Addr} {cls c fl : Value} {fo : Option Addr} {Q : Unit → Shared → Prop} (h : OnV base l e cls c fl s.heap) (k : ∀ h', OnV base l e cls c (fo.elim Value.none fun f => rawInt f) h' → s.heap.UpToSlots h' → Q () { s with heap := h' }) : wpAny M A (setFlight (.ref e) fo) Q E s := by
  obtain ⟨st, ne, hl, oe, vs, T, oT, ts, ge, hc, de, h1, nT, Te, gT, dT, h3⟩ := h
  have z3 : 3 < ts.size := (Array.getElem?_eq_some_iff.mp h3).1
  have oth : ∀ b, b ≠ T → (s.heap.update T (Obj.mapFields (·.setIfInBounds 3 (fo.elim Value.none fun f => rawInt f)))).get? b = s.heap.get? b := fun b hb => Heap.get?_update_other _ _ (Ne.symm hb)
  have nrec : ∀ b o, s.heap.get? b = some o → (∀ vs, o.data ≠ .fields vs) → b ≠ T := fun b o hb hnf z => by
    rw [z, gT] at hb; cases hb; exact hnf ts dT
  unfold setFlight
  refine wpAny_bind (wpAny_field ge de h1 ?_)
  rw [if_pos (by simp)]
  refine wpAny_setField gT dT z3 (k _ ⟨fun b o hb => (oth b fun z => by rw [z, nT] at hb; cases hb).trans (st b o hb), ne, hl.of_keeps fun b o hb nf => ⟨o, (oth b (nrec b o hb nf)).trans hb, rfl⟩, oe, vs, T, _, _, (oth e (Ne.symm Te)).trans ge, hc, de, h1, nT, Te, Heap.get?_update_self _ gT (Obj.isFreed_of_fields (Obj.data_mapFields dT _)), Obj.data_mapFields dT _, by simp [z3]⟩ fun b o hb nf => ⟨o.slots, (oth b (nrec b o hb nf)).trans hb⟩)
theorem leave_any {base : Heap} {env : Env} {outer : List Env} {L e : Addr} {cls c fl : Value} {Q : Unit → Shared → Prop} (hfr : A.frames = some (env :: outer)) (hf : env.frame = some L) (h : OnV base (env :: outer) e cls c fl s.heap)
    (k : ∀ h', OnV base outer e cls c .none h' → s.heap.UpToSlots h' → Q () { s with heap := h' }) : wpAny M A (leaving env (.ref e)) Q E s := by
  unfold leaving
  refine wpAny_bind (note_any hfr hf h fun h1 hh up => ?_)
  refine flight_set (s := { s with heap := h1 }) hh fun h2 fl2 up2 => ?_
  obtain ⟨k1, k2, ⟨_, _, k3⟩, k4⟩ := fl2
  exact k h2 ⟨k1, k2, k3, k4⟩ (up.trans up2)
end
def TrF (h : Heap) (x T : Addr) (cls c fl : Value) : Prop := ∃ oe vs oT ts, h.get? x = some oe ∧ (oe.cls = cls ∧ vs[2]? = some c) ∧ oe.data = .fields vs ∧ vs[1]? = some (.ref T) ∧ T ≠ x ∧ h.get? T = some oT ∧ oT.data = .fields ts ∧ ts[3]? = some fl
def CX1 (P : Program) (w : World) : CXT := fun outer H s E e s' => ∃ (x T : Addr) (cls c : Value) (n : Nat) (H' : Hp), e = .ref x ∧ s'.os = s.os ∧ AllBare s'.gens ∧ Un (frs outer) [] H H' s.heap s'.heap ∧ HOk P w H' s'.heap ∧
  (s.heap.get? x = none ∧ s.heap.get? T = none ∧ H' x = none ∧ H' T = none) ∧ (TrF s'.heap x T cls c .none ∧ Chn s'.heap H' [x, T] n c) ∧ E cls none H'
section
variable {X : Cx} {pins : List (Addr × Obj)} {σ : St} {H : Hp} {s : Shared} {h' : Heap}
theorem Inv.none0 (I : Inv X pins σ H s) (hex : X.ex = []) {b : Addr} (e : s.heap.get? b = none) : X.s_0.heap.get? b = none := by
  cases q : X.s_0.heap.get? b with
  | none => rfl
  | some o =>
    obtain ⟨o', z⟩ := I.base.there b o q (by rw [hex]; simp)
    rw [e] at z; cases z
theorem Inv.apart (I : Inv X pins σ H s) (hex : X.ex = []) {b : Addr} (e : s.heap.get? b = none) : X.s_0.heap.get? b = none ∧ b ≠ X.env.locals ∧ (∀ x c, X.env.cells.lookup x = some c → c ≠ b) ∧ ∀ p ∈ X.pn ++ pins, p.1 ≠ b := by
  refine ⟨I.none0 hex e, fun z => ?_, fun x c q z => ?_, fun p hp z => ?_⟩
  · obtain ⟨m, ⟨o, _, _, ho, _⟩, _⟩ := I.loc
    rw [← z, e] at ho; cases ho
  · obtain ⟨v, o, ho, _⟩ := I.cell x c q
    rw [z, e] at ho; cases ho
  · have := (I.pin p hp).1
    rw [z, e] at this; cases this
theorem un_left (I : Inv X pins σ H s) (hex : X.ex = []) (hs : X.stack = X.env :: X.outer) (hfr : X.env.frame = some X.env.locals) (hd : List Addr) (hh : ∀ b ∈ hd, X.s_0.heap.get? b = none ∧ H b = none)
    (keep : ∀ b o, s.heap.get? b = some o → b ∉ frs X.stack → b ∉ hd → h'.get? b = some o) (slot : ∀ b o, s.heap.get? b = some o → b ∈ frs X.stack → ∃ sl, h'.get? b = some { o with slots := sl }) :
    Un X.fs [] X.H_0 H X.s_0.heap h' ∧ HOk X.prog X.w H h' := by
  have noex : ∀ b : Addr, b ∉ X.ex := fun b => by rw [hex]; simp
  have est : frs X.stack = X.env.locals :: X.fs := by rw [hs]; unfold frs; rw [List.filterMap_cons, hfr]; rfl
  have hL : X.s_0.heap.get? X.env.locals = none := Heap.get?_none_of_le I.ok.above
  have nst : ∀ b o, X.s_0.heap.get? b = some o → b ∉ X.fs → b ∉ frs X.stack := fun b o e hb hm => by
    rw [est] at hm
    rcases List.mem_cons.mp hm with z | z
    · rw [z, hL] at e; cases e
    · exact hb z
  have nhd : ∀ b o, X.s_0.heap.get? b = some o → b ∉ hd := fun b o e hm => by rw [(hh b hm).1] at e; cases e
  refine ⟨⟨fun b o e n hb _ => keep b o (I.base.keep b o e n hb (noex b)) (nst b o e hb) (nhd b o e), fun b o e n hb _ => ?_, fun b o e n _ => I.base.free b o e n (noex b), fun b o e _ => ?_, I.base.tups, I.base.frzs, I.base.tbls⟩, fun a o e => ?_⟩
  · obtain ⟨sl, q⟩ := I.base.slot b o e n hb (noex b)
    obtain ⟨sl', q'⟩ := slot b _ q (by rw [est]; exact List.mem_cons_of_mem _ hb)
    exact ⟨sl', q'⟩
  · obtain ⟨o', q⟩ := I.base.there b o e (noex b)
    by_cases hm : b ∈ frs X.stack
    · obtain ⟨sl, z⟩ := slot b _ q hm
      exact ⟨_, z⟩
    · exact ⟨o', keep b o' q hm (nhd b o e)⟩
  · have tracked : ∀ b u, H b = some u → b ∉ frs X.stack ∧ b ∉ hd := fun b u q => ⟨fun hm => (by rw [I.stkFree b hm] at q; cases q), fun hm => (by rw [(hh b hm).2] at q; cases q)⟩
    refine (I.hok a o e).stay (fun b u hb q => ?_) (fun _ q => q) fun _ _ q => q
    rcases hb with rfl | hb
    · exact keep _ _ q (tracked _ _ e).1 (tracked _ _ e).2
    · exact keep _ _ q (tracked _ _ hb).1 (tracked _ _ hb).2
theorem mem_frs {l : List Env} {env : Env} (he : env ∈ l) {a : Addr} (ha : env.frame = some a) : a ∈ frs l := List.mem_filterMap.mpr ⟨env, he, ha⟩
theorem two_cases {P : Addr → Prop} {x T : Addr} (h1 : P x) (h2 : P T) : ∀ b ∈ [x, T], P b := fun b hb => by
  rcases List.mem_cons.mp hb with rfl | hb
  · exact h1
  · rcases List.mem_cons.mp hb with rfl | hb
    · exact h2
    · cases hb
theorem Inv.moved (I : Inv X pins σ H s) (ch : List Addr) (hch : ∀ b ∈ ch, X.s_0.heap.get? b = none ∧ b ≠ X.env.locals ∧ (∀ x c, X.env.cells.lookup x = some c → c ≠ b) ∧ (∀ p ∈ X.pn ++ pins, p.1 ≠ b) ∧ H b = none)
    (keep : ∀ b o, s.heap.get? b = some o → b ∉ frs X.stack → b ∉ ch → h'.get? b = some o) (slot : ∀ b o, s.heap.get? b = some o → b ∈ frs X.stack → ∃ sl, h'.get? b = some { o with slots := sl }) : Inv X pins σ H { s with heap := h' } := by
  have neL : ∀ b o, X.s_0.heap.get? b = some o → b ≠ X.env.locals := fun b o e => Nat.ne_of_lt (Nat.lt_of_lt_of_le (Heap.lt_size e) I.ok.above)
  have neC : ∀ b o, X.s_0.heap.get? b = some o → b ∉ ch := fun b o e hb => by rw [(hch b hb).1] at e; cases e
  have nst : ∀ b o, X.s_0.heap.get? b = some o → b ∉ X.fs → b ∉ frs X.stack := fun b o e hb hm => (List.mem_cons.mp (I.stkSub b hm)).elim (neL b o e) hb
  have any : ∀ b o, s.heap.get? b = some o → b ∉ ch → ∃ sl, h'.get? b = some { o with slots := sl } := fun b o e hb => by
    by_cases hm : b ∈ frs X.stack
    · exact slot b o e hm
    · exact ⟨o.slots, keep b o e hm hb⟩
  have cellK : ∀ x c, X.env.cells.lookup x = some c → ∀ v, s.heap.IsCell c v → h'.IsCell c v := fun x c e v ⟨o, ho, hd⟩ => by
    obtain ⟨sl, q⟩ := any c o ho fun z => (hch c z).2.2.1 x c e rfl
    exact ⟨_, q, hd⟩
  have tracked : ∀ b u, H b = some u → b ∉ frs X.stack ∧ b ∉ ch := fun b u q => ⟨fun hm => (by rw [I.stkFree b hm] at q; cases q), fun hm => (by rw [(hch b hm).2.2.2.2] at q; cases q)⟩
  refine ⟨I.ok, I.os, I.bare, ⟨fun b o e n hb hx => ?_, fun b o e n hb hx => ?_, fun b o e n hx => I.base.free b o e n hx, fun b o e hx => ?_, I.base.tups, I.base.frzs, I.base.tbls⟩, ?_, fun x c e => ?_, I.free, I.freeC, fun p hp => ?_, fun a o e => ?_, I.len⟩
  · exact keep b o (I.base.keep b o e n hb hx) (nst b o e hb) (neC b o e)
  · obtain ⟨sl, e1⟩ := I.base.slot b o e n hb hx
    obtain ⟨sl', e2⟩ := any b _ e1 (neC b o e)
    exact ⟨sl', e2⟩
  · obtain ⟨o', e1⟩ := I.base.there b o e hx
    obtain ⟨sl, e2⟩ := any b o' e1 (neC b o e)
    exact ⟨_, e2⟩
  · obtain ⟨m, ⟨o, es, ep, ho, r⟩, hl⟩ := I.loc
    obtain ⟨sl, q⟩ := any _ o ho fun z => (hch _ z).2.1 rfl
    refine ⟨m, ⟨_, es, ep, q, r⟩, fun i x v e1 e2 e3 => ?_⟩
    obtain ⟨u, rr, l⟩ := hl i x v e1 e2 e3
    refine ⟨u, rr, ?_⟩
    rcases l with l | ⟨k, c, e, z⟩
    · exact .inl l
    · exact .inr ⟨k, c, e, cellK x c e _ z⟩
  · obtain ⟨v, z⟩ := I.cell x c e
    exact ⟨v, cellK x c e v z⟩
  · obtain ⟨e, n, ne, nf, d⟩ := I.pin p hp
    exact ⟨keep p.1 p.2 e (fun hm => (List.mem_cons.mp (I.stkSub _ hm)).elim ne nf) (fun z => (hch p.1 z).2.2.2.1 p hp rfl), n, ne, nf, d⟩
  · refine (I.hok a o e).stay (fun b u hb q => ?_) (fun _ q => q) fun _ _ q => q
    rcases hb with rfl | hb
    · exact keep _ _ q (tracked _ _ e).1 (tracked _ _ e).2
    · exact keep _ _ q (tracked _ _ hb).1 (tracked _ _ hb).2
theorem air_base (I : Inv X pins σ H s) {x T : Addr} {cls c fl : Value} (ht : TrF s.heap x T cls c fl) : OnV (PySem.W.hideAll s.heap (x :: T :: frs X.stack)) X.stack x cls c fl s.heap := by
  obtain ⟨oe, vs, oT, ts, g1, g2, g3, g4, g5, g6, g7, g8⟩ := ht
  exact ⟨fun b o q => PySem.W.of_hideAll _ q, PySem.W.hideAll_none _ (by simp), PySem.W.funFrames_hide I.stack (fun env henv a ha => List.mem_cons_of_mem _ (List.mem_cons_of_mem _ (mem_frs henv ha))), oe, vs, T, oT, ts, g1, g2, g3, g4, PySem.W.hideAll_none _ (by simp), g5, g6, g7, g8⟩
theorem air_slot (I : Inv X pins σ H s) (up : s.heap.UpToSlots h') : ∀ b o, s.heap.get? b = some o → b ∈ frs X.stack → (∀ vs, o.data ≠ .fields vs) ∧ ∃ sl, h'.get? b = some { o with slots := sl } := fun b o q hm => by
  obtain ⟨_, o2, q2, nf⟩ := I.stack.mem hm
  rw [q] at q2; cases q2
  exact ⟨nf, up b o q nf⟩
theorem air_keep {x T : Addr} (k1 : (PySem.W.hideAll s.heap (x :: T :: frs X.stack)).StaysIn h') : ∀ b o, s.heap.get? b = some o → b ∉ frs X.stack → b ∉ [x, T] → h'.get? b = some o := fun b o q nb nd => k1 b o (PySem.W.hideAll_get _ q fun hm => by
  rcases List.mem_cons.mp hm with z | hm
  · exact nd (by rw [z]; simp)
  · rcases List.mem_cons.mp hm with z | hm
    · exact nd (by rw [z]; simp)
    · exact nb hm)
theorem air_entry (I : Inv X pins σ H s) {x T T' : Addr} {oT' : Obj} {ts' : Array Value} (up : s.heap.UpToSlots h') (t5 : (PySem.W.hideAll s.heap (x :: T :: frs X.stack)).get? T' = none) (t6 : T' ≠ x) (t7 : h'.get? T' = some oT') (t8 : oT'.data = .fields ts') : s.heap.get? T' = none ∨ T' = T := by
  cases q : s.heap.get? T' with
  | none => exact .inl rfl
  | some o =>
    by_cases hm : T' ∈ x :: T :: frs X.stack
    · rcases List.mem_cons.mp hm with z | hm
      · exact absurd z t6
      · rcases List.mem_cons.mp hm with z | hm
        · exact .inr z
        · obtain ⟨nf, sl, z⟩ := air_slot I up T' o q hm
          rw [t7] at z
          cases z
          exact absurd t8 (nf ts')
    · have := PySem.W.hideAll_get _ q hm
      rw [t5] at this; cases this
theorem air_chain (I : Inv X pins σ H s) {x T T' : Addr} {n : Nat} {c : Value} (k1 : (PySem.W.hideAll s.heap (x :: T :: frs X.stack)).StaysIn h') (e : s.heap.get? T' = none ∨ T' = T) (q : Chn s.heap H [x, T] n c) : Chn h' H [x, T'] n c :=
  q.move fun a o vs g1 g2 g3 g4 => ⟨air_keep k1 a o g1 (fun hm => by obtain ⟨_, o2, q2, nf⟩ := I.stack.mem hm; rw [g1] at q2; cases q2; exact nf vs g2) g4, g3, fun hm => by
    rcases List.mem_cons.mp hm with z | hm
    · exact g4 (by rw [z]; simp)
    · rcases List.mem_cons.mp hm with z | hm
      · rcases e with e | e
        · rw [← z, g1] at e; cases e
        · exact g4 (by rw [z, e]; simp)
      · cases hm⟩
end
def AirTo (X : Cx) (E : XK) : Prop := ∀ (pins : List (Addr × Obj)) (σ : St) (H : Hp) (s : Shared) (x T : Addr) (cls c fl : Value) (n : Nat), Inv X pins σ H s → (X.s_0.heap.get? x = none ∧ X.s_0.heap.get? T = none ∧ H x = none ∧ H T = none) → TrF s.heap x T cls c fl → Chn s.heap H [x, T] n c → E cls none H → X.xe (.ref x) s
def RaiseTo (X : Cx) (E : XK) : Prop := ∀ (pins : List (Addr × Obj)) (σ : St) (H : Hp) (s : Shared) (h1 : Heap) (e : Addr) (oe : Obj) (vs : Array Value) (c : Value) (n : Nat), Inv X pins σ H s → (∀ b o, s.heap.get? b = some o → h1.get? b = some o) → s.heap.get? e = none → h1.get? e = some oe → oe.data = .fields vs → vs[1]? = some .none → vs[2]? = some c → Chn s.heap H [] n c → E oe.cls none H → X.xe (.ref e) { s with heap := h1 }
abbrev cxP (P : Program) (w : World) (K : PySem.W.Frag) (mg : Str → Option Value) (base : Heap) (N : List Str) (qual : Str) (scope : Scope) (f : Addr) (cd : Value) (A : Around) (outer : List Env) (s0 : Shared) (H0 : Hp) (E : XK) (cb : Bool) (ps : List (Addr × Obj)) : Cx := { cxOf (CX1 P w) P w K mg base N qual scope f cd A outer s0 H0 E with calm := cb, pn := ps }
section
variable {P : Program} {w : World} {K : PySem.W.Frag} {mg : Str → Option Value} {base : Heap} {N : List Str} {qual : Str} {scope : Scope} {f : Addr} {cd : Value} {A : Around} {outer : List Env} {s0 : Shared} {H0 : Hp} {E : XK} {cb : Bool} {ps : List (Addr × Obj)}
theorem airP : AirTo (cxP P w K mg base N qual scope f cd A outer s0 H0 E cb ps) E := by
  intro pins σ H s x T cls c fl n I hh ht hq he
  refine leave_any I.ok.frames rfl (air_base I ht) fun h' fl up => ?_
  obtain ⟨k1, k2, k3, oe', vs', T', oT', ts', t1, t2, t3, t4, t5, t6, t7, t8, t9⟩ := fl
  have hd := two_cases (P := fun b => s0.heap.get? b = none ∧ H b = none) ⟨hh.1, hh.2.2.1⟩ ⟨hh.2.1, hh.2.2.2⟩
  obtain ⟨un', hok'⟩ := un_left (h' := h') I rfl rfl rfl [x, T] hd (air_keep k1) (fun b o q hm => (air_slot I up b o q hm).2)
  have ent := air_entry I up t5 t6 t7 t8
  have hT' : s0.heap.get? T' = none ∧ H T' = none := by
    rcases id ent with q | rfl
    · exact ⟨I.none0 rfl q, hok_none I.hok q⟩
    · exact hd T' (by simp)
  exact ⟨x, T', cls, c, n, H, rfl, I.os, I.bare, un', hok', ⟨hh.1, hT'.1, hh.2.2.1, hT'.2⟩, ⟨⟨oe', vs', oT', ts', t1, t2, t3, t4, t6, t7, t8, t9⟩, air_chain I k1 ent hq⟩, he⟩
theorem passesP : Passes (CX1 P w) (cxP P w K mg base N qual scope f cd A outer s0 H0 E cb ps) E := by
  intro pins σ H s e s' I hx
  obtain ⟨x, T, cls, c, n, H', rfl, hos, hbare, un, hok, ⟨hx0, hT0, hxn, hTn⟩, ⟨ht, hq⟩, he⟩ := hx
  have I1 : Inv (cxP P w K mg base N qual scope f cd A outer s0 H0 E cb ps) pins σ H' s' := I.call' (ch := []) hos un hok hbare (fun b hb => absurd hb (by simp))
  exact airP pins σ H' s' x T cls c .none n I1 ⟨I.none0 rfl hx0, I.none0 rfl hT0, hxn, hTn⟩ ht hq he
theorem raiseP : RaiseTo (cxP P w K mg base N qual scope f cd A outer s0 H0 E cb ps) E := by
  intro pins σ H s h1 e oe vs c n I kp ne ge de f1 f2 hq he
  have hff := I.stack
  show wpAny _ _ (leaving _ (.ref e)) _ _ _
  unfold leaving
  have nh : (PySem.W.hideAll s.heap (frs (cxP P w K mg base N qual scope f cd A outer s0 H0 E cb ps).stack)).get? e = none := by
    cases q : (PySem.W.hideAll s.heap (frs (cxP P w K mg base N qual scope f cd A outer s0 H0 E cb ps).stack)).get? e with
    | none => rfl
    | some o => rw [PySem.W.of_hideAll _ q] at ne; cases ne
  refine wpAny_bind (note_first (s := { s with heap := h1 }) (base := PySem.W.hideAll s.heap (frs (cxP P w K mg base N qual scope f cd A outer s0 H0 E cb ps).stack)) I.ok.frames rfl ((PySem.W.funFrames_hide hff (fun env henv a ha => mem_frs henv ha)).of_keeps fun b o q nf => ⟨o, kp b o q, rfl⟩) ge (fun b o q => kp b o (PySem.W.of_hideAll _ q)) nh de f1 f2 fun h2 o2 up1 => ?_)
  refine flight_set (s := { s with heap := h2 }) o2 fun h' fl up2 => ?_
  obtain ⟨k1, k2, k3, oe', vs', T', oT', ts', t1, t2, t3, t4, t5, t6, t7, t8, t9⟩ := fl
  have slot : ∀ b o, s.heap.get? b = some o → b ∈ frs (cxP P w K mg base N qual scope f cd A outer s0 H0 E cb ps).stack → (∀ vs, o.data ≠ .fields vs) ∧ ∃ sl, h'.get? b = some { o with slots := sl } := fun b o q hm => by
    obtain ⟨_, o2, q2, nf⟩ := hff.mem hm
    rw [q] at q2; cases q2
    exact ⟨nf, (up1.trans up2) b o (kp b o q) nf⟩
  have keep : ∀ b o, s.heap.get? b = some o → b ∉ frs (cxP P w K mg base N qual scope f cd A outer s0 H0 E cb ps).stack → h'.get? b = some o := fun b o q nb => k1 b o (PySem.W.hideAll_get _ q nb)
  obtain ⟨un', hok'⟩ := un_left (h' := h') I rfl rfl rfl [] (fun b hb => absurd hb (by simp)) (fun b o q nb _ => keep b o q nb) (fun b o q hm => (slot b o q hm).2)
  have new : s.heap.get? T' = none := by
    cases q : s.heap.get? T' with
    | none => rfl
    | some o =>
      by_cases hm : T' ∈ frs (cxP P w K mg base N qual scope f cd A outer s0 H0 E cb ps).stack
      · obtain ⟨nf, sl, z⟩ := slot T' o q hm
        rw [t7] at z
        cases z
        exact absurd t8 (nf ts')
      · have := PySem.W.hideAll_get _ q hm
        rw [t5] at this; cases this
  exact ⟨e, T', oe.cls, c, n, H, rfl, I.os, I.bare, un', hok', ⟨I.none0 rfl ne, I.none0 rfl new, hok_none I.hok ne, hok_none I.hok new⟩, ⟨⟨oe', vs', oT', ts', t1, t2, t3, t4, t6, t7, t8, t9⟩, hq.move fun a o vs g1 g2 g3 g4 => ⟨keep a o g1 (fun hm => by obtain ⟨_, o2, q2, nf⟩ := hff.mem hm; rw [g1] at q2; cases q2; exact nf vs g2), g3, fun hm => by
    rcases List.mem_cons.mp hm with z | hm
    · rw [← z, g1] at ne; cases ne
    · rcases List.mem_cons.mp hm with z | hm
      · rw [← z, g1] at new; cases new
      · cases hm⟩⟩, he⟩
end
section
variable {P : Program} {w : World} {K : PySem.W.Frag} {mg : Str → Option Value} {base : Heap} {N : List Str} {qual : Str} {scope : Scope} {f : Addr} {cd : Value} {A : Around} {outer : List Env} {s0 : Shared} {H0 : Hp} {E : XK}
theorem passes1 : Passes (CX1 P w) (cxOf (CX1 P w) P w K mg base N qual scope f cd A outer s0 H0 E) E := passesP (cb := true) (ps := [])
theorem raise1 : RaiseTo (cxOf (CX1 P w) P w K mg base N qual scope f cd A outer s0 H0 E) E := raiseP (cb := true) (ps := [])
end
def EXB : List Value := [.type "Exception", .type "BaseException", .type "object"]
def ExcK (K : PySem.W.Frag) (C : Addr) : Prop := PySem.W.excIn K C EXB "Exception.__new__" = true
theorem ExcK.obj {K : PySem.W.Frag} {h : Heap} {C : Addr} (X : K.In h) (q : ExcK K C) : ∃ bm N nm qn bs hdct sn sub ab col dd k0 k1 k2 k3 k5 mN, h.get? C = some (excClassObj nm qn C N bs bm hdct sn sub ab col dd k0 k1 k2 k3 k5 "Exception.__new__") ∧ h.Ns N mN ∧ mN "__init__" = none ∧ OwnTail h EXB bm := by
  unfold ExcK PySem.W.excIn at q
  split at q
  · rename_i dd cd sl ho
    split at q
    · rename_i C' bm k0 k1 k2 k3 n k5 hm hs
      simp only [Bool.and_eq_true, beq_iff_eq, Bool.not_eq_true'] at q
      obtain ⟨⟨⟨⟨⟨rfl, rfl⟩, hdel⟩, ht⟩, hok⟩, hni⟩ := q
      obtain ⟨nm, bs, mro, ns, qn, hd, sn, sub, ab, col, del⟩ := cd
      dsimp only at hm hdel hok hni
      subst hm hdel
      have hsl : sl = #[k0, k1, k2, k3, some (.builtin "Exception.__new__"), k5] := by
        obtain ⟨l⟩ := sl
        simp only at hs
        rw [hs]
      subst hsl
      exact ⟨bm, ns, nm, qn, bs, hd, sn, sub, ab, col, dd, k0, k1, k2, k3, k5, _, X _ _ ho, .of_isNs (PySem.W.isNs_of_in X hok), PySem.W.nsMap_none_of_in X hok hni, PySem.W.tail_of_in X ht⟩
    · cases q
  · cases q
def tRaise (E : XK) (C : Addr) : TS := fun _ _ H => E (.ref C) none H
theorem ps_raise {X : Cx} {x : Str} {C : Addr} {E : XK} {np cpos pos : Pos} (hc : X.calm = true) (hg : Gl X x) (hm : X.mg x = some (.ref C)) (hC : ExcK X.K C) (hr : RaiseTo X E) (hd : (x == ("__debug__" : Str)) = false := by decide) :
    PS X (.Raise (some (.Call (.Name x np) [] [] cpos)) none pos) (tRaise E C) := by
  intro pins s σ H D I h
  obtain ⟨bm, N, nm, qn, bs, hdct, sn, sub, ab, col, dd, k0, k1, k2, k3, k5, mN, g1, g2, g3, g4⟩ := hC.obj I.kIn
  exact wpAny_Raise_call_subT (C := C) (nm := nm) (q := qn) (N := N) (bs := bs) (bm := bm) (hdct := hdct) (sn := sn) (sub := sub) (ab := ab) (col := col) (dd := dd) (k0 := k0) (k1 := k1) (k2 := k2) (k3 := k3) (k5 := k5)
    F.excBase_Exception (mN := mN) (g4.hasType F.excBase_Exception.hasBase) (I.ok.hd hc) rfl g3 (ld_glob I hg hm ⟨rfl, evalArgs_empty ⟨rfl, Nat.zero_le _, g1, g2, g4, fun h' e hx => by
      obtain ⟨t, ht, _⟩ := hx.there
      exact hr pins σ H s h' e _ _ .none 0 I hx.keeps hx.new ht rfl rfl rfl .nil h⟩⟩ hd)
theorem Fun.okE {P : Program} {w : World} {K : PySem.W.Frag} {mg : Str → Option Value} {base : Heap} {x qual : Str} {st : Stmt} {f : Addr} {fd : FuncData} {N ps : List Str} {k : Nat} {sp : Sp} (F : Fun K x qual st f fd) (S : FnScope N ps (defScope st)) (len : ∀ vs H Q E, sp vs H Q E → vs.length = ps.length)
    (hbody : ∀ (cdv : Value) (A : Around) (outer : List Env) (s : Shared) (H : Hp) (vs : List V) (Q : VK) (E : XK), Room k (A.deeper (envOfC qual (defScope st) s.heap.objs.size f cdv)) → sp vs H Q E →
      ∃ t, PSs (cxOf (CX1 P w) P w K mg base N qual (defScope st) f cdv A outer s H E) (defBody st) t ∧ t { nx := fun _ H' => Q .non H', rt := Q } (start N vs) H) : FnOk P w K mg base (CX1 P w) (k + 1) f fd ps sp := by
  obtain ⟨oc, od, kV, doc, pm, an, cdv, ct, osl, rfl, lk, hcd⟩ := F.ex
  exact fn_of lk hcd S len fun A outer s H vs Q E hr hsp => hbody cdv A outer s H vs Q E hr hsp
end L2
namespace L2
open PySem PySem.Spec PyProof.Rows
def AirAt (X : Cx) (pins : List (Addr × Obj)) (σ : St) (E : XK) (ev : Value) (s : Shared) : Prop := ∃ (x T : Addr) (cls c fl : Value) (n : Nat) (H : Hp), ev = .ref x ∧ Inv X pins σ H s ∧
  (∀ b ∈ [x, T], X.s_0.heap.get? b = none ∧ b ≠ X.env.locals ∧ (∀ y c, X.env.cells.lookup y = some c → c ≠ b) ∧ (∀ p ∈ X.pn ++ pins, p.1 ≠ b) ∧ H b = none) ∧ TrF s.heap x T cls c fl ∧ Chn s.heap H [x, T] n c ∧ E cls none H
section
variable {X : Cx} {pins : List (Addr × Obj)} {σ : St} {H : Hp} {s s' : Shared} {E : XK}
theorem air_of_CX1 (I : Inv X pins σ H s) (hex : X.ex = []) {e : Value} (h : CX1 X.prog X.w X.stack H s E e s') : AirAt X pins σ E e s' := by
  obtain ⟨x, T, cls, c, n, H', rfl, hos, hbare, un, hok, ⟨hx0, hT0, hxn, hTn⟩, ⟨ht, hq⟩, he⟩ := h
  have I1 : Inv X pins σ H' s' := I.call' (ch := []) hos un hok hbare (fun b hb => absurd hb (by simp))
  obtain ⟨z1, z2, z3, z4⟩ := I.apart hex hx0
  obtain ⟨y1, y2, y3, y4⟩ := I.apart hex hT0
  exact ⟨x, T, cls, c, .none, n, H', rfl, I1, two_cases ⟨z1, z2, z3, z4, hxn⟩ ⟨y1, y2, y3, y4, hTn⟩, ht, hq, he⟩
theorem air_on {x T : Addr} {cls c fl : Value} {n : Nat} {l : List Env} {h2 : Heap} (hex : X.ex = []) (I : Inv X pins σ H s) (ap : ∀ b ∈ [x, T], X.s_0.heap.get? b = none ∧ b ≠ X.env.locals ∧ (∀ y c, X.env.cells.lookup y = some c → c ≠ b) ∧ (∀ p ∈ X.pn ++ pins, p.1 ≠ b) ∧ H b = none) (hq : Chn s.heap H [x, T] n c) (he : E cls none H)
    (o : OnV (PySem.W.hideAll s.heap (x :: T :: frs X.stack)) l x cls c fl h2) (up : s.heap.UpToSlots h2) : AirAt X pins σ E (.ref x) { s with heap := h2 } := by
  obtain ⟨k1, k2, k3, oe', vs', T', oT', ts', t1, t2, t3, t4, t5, t6, t7, t8, t9⟩ := o
  have hent := air_entry I up t5 t6 t7 t8
  have apx := ap x (by simp)
  have apT := ap T (by simp)
  have apT' : X.s_0.heap.get? T' = none ∧ T' ≠ X.env.locals ∧ (∀ y c, X.env.cells.lookup y = some c → c ≠ T') ∧ (∀ p ∈ X.pn ++ pins, p.1 ≠ T') ∧ H T' = none := by
    rcases id hent with q | rfl
    · obtain ⟨z1, z2, z3, z4⟩ := I.apart hex q
      exact ⟨z1, z2, z3, z4, hok_none I.hok q⟩
    · exact apT
  have Im : Inv X pins σ H { s with heap := h2 } := I.moved [x, T] (two_cases apx apT) (air_keep k1) (fun b o q hm => (air_slot I up b o q hm).2)
  exact ⟨x, T', cls, c, fl, n, H, rfl, Im, two_cases apx apT', ⟨oe', vs', oT', ts', t1, t2, t3, t4, t6, t7, t8, t9⟩, air_chain I k1 hent hq, he⟩
theorem air_note {M : Model} {Ee : Value → Shared → Prop} {Q : Unit → Shared → Prop} {A : Around} {ev : Value} (hex : X.ex = []) (hst : X.stack = X.env :: X.outer) (hfr : X.env.frame = some X.env.locals) (hA : A.frames = X.A.frames) (h : AirAt X pins σ E ev s) (k : ∀ s3, AirAt X pins σ E ev s3 → Q () s3) :
    wpAny M A (noteFrame ev X.env) Q Ee s := by
  obtain ⟨x, T, cls, c, fl, n, H, rfl, I, ap, ht, hq, he⟩ := h
  exact note_any (by rw [hA, I.ok.frames, hst]) hfr (by rw [← hst]; exact air_base I ht) fun h1 hh up => k _ (air_on hex I ap hq he hh up)
theorem air_flight {M : Model} {Ee : Value → Shared → Prop} {Q : Unit → Shared → Prop} {A : Around} {ev : Value} {fo : Option Addr} (hex : X.ex = []) (h : AirAt X pins σ E ev s) (k : ∀ s3, AirAt X pins σ E ev s3 → Q () s3) : wpAny M A (setFlight ev fo) Q Ee s := by
  obtain ⟨x, T, cls, c, fl, n, H, rfl, I, ap, ht, hq, he⟩ := h
  exact flight_set (air_base I ht) fun h2 o up => k _ (air_on hex I ap hq he o up)
theorem air_back {M : Model} {Q : Value → Shared → Prop} {A : Around} {ev : Value} (hex : X.ex = []) (h : AirAt X pins σ E ev s) (k : ∀ s3, AirAt X pins σ E ev s3 → Q ev s3) : cameBackBy M A X.env Q ev s := by
  obtain ⟨x, T, cls, c, fl, n, H, rfl, I, ap, ht, hq, he⟩ := id h
  obtain ⟨oe, vs, oT, ts, g1, g2, g3, g4, _⟩ := ht
  unfold cameBackBy
  refine wpAny_bind (wpAny_field g1 g3 g4 ?_)
  rw [if_neg (by simp)]
  exact air_flight hex h k
end
theorem excMatches_own {M : Model} {A : Around} {E : Value → Shared → Prop} {h : Heap} {g : Array GenState} {d : Drawn} {t : Nat} {os : OsState} {e C C2 : Addr} {oe : Obj} {Q : Bool → Shared → Prop}
    {nm q : Str} {N : Addr} {bs bm : List Value} {hdct : Bool} {sn : List Str} {sub : List Value} {ab : Bool} {col : Option Bool} {dd : Option Addr} {k0 k1 k2 k3 k5 : Option Value} {newId : String}
    {nm' q' : Str} {N' : Addr} {bs' bm' : List Value} {hdct' : Bool} {sn' : List Str} {sub' : List Value} {ab' : Bool} {col' : Option Bool} {dd' : Option Addr} {j0 j1 j2 j3 j5 : Option Value} {newId' : String}
    (hC : h.get? C = some (excClassObj nm q C N bs bm hdct sn sub ab col dd k0 k1 k2 k3 k5 newId)) (hC2 : h.get? C2 = some (excClassObj nm' q' C2 N' bs' bm' hdct' sn' sub' ab' col' dd' j0 j1 j2 j3 j5 newId')) (he : h.get? e = some oe) (hcls : oe.cls = .ref C) (hbase : bm'.contains (.type "BaseException") = true)
    (hq : Q ((Value.ref C :: bm).contains (.ref C2)) ⟨h, g, d, t, os⟩) : wpAny M A (excMatches (.ref e) (.ref C2)) Q E ⟨h, g, d, t, os⟩ := by
  have hcB : (Value.ref C2 :: bm').contains (.type "BaseException") = true := by rw [List.contains_cons, hbase, Bool.or_true]
  have f := tc_notTuple
  unfold excMatches
  repeat (first | (with_reducible refine wpAny_loadPart_at he ?_; rw [hcls]) | with_reducible refine wpAny_loadPart_at hC2 ?_ | (with_reducible refine wpAny_isSubtype_exc hC2 ?_; rw [hcB]) | with_reducible refine wpAny_isSubtype_exc hC ?_ | wp_step)
  cases hb : (Value.ref C :: bm).contains (.ref C2) <;> (rw [hb] at hq; wp_walk; exact hq)
def baseIn (K : PySem.W.Frag) (C : Addr) : Bool := match K.lookup C with
  | some ⟨_, _, .cls cd, _⟩ => cd.mro == .ref C :: EXB
  | _ => false
theorem base_is {K : PySem.W.Frag} {h : Heap} {C : Addr} (X : K.In h) (hb : baseIn K C = true) {nm q : Str} {N : Addr} {bs bm : List Value} {hdct : Bool} {sn : List Str} {sub : List Value} {ab : Bool} {col : Option Bool} {dd : Option Addr} {k0 k1 k2 k3 k5 : Option Value} {newId : String}
    (hC : h.get? C = some (excClassObj nm q C N bs bm hdct sn sub ab col dd k0 k1 k2 k3 k5 newId)) : bm = EXB := by
  unfold baseIn at hb
  split at hb
  · rename_i ho
    have := X _ _ ho
    rw [hC] at this
    cases this
    have z := beq_iff_eq.mp hb
    cases z
    rfl
  · cases hb
structure Own (K : PySem.W.Frag) (C : Addr) : Prop where
  exc : ExcK K C
  base : baseIn K C = true
inductive PCh : List (Addr × Obj) → Nat → Value → Prop
  | nil : PCh [] 0 .none
  | cons {a : Addr} {o : Obj} {vs : Array Value} {c : Value} {n : Nat} {ps : List (Addr × Obj)} : o.data = .fields vs → vs[2]? = some c → PCh ps n c → PCh ((a, o) :: ps) (n + 1) (.ref a)
theorem Chn.pins {h : Heap} {H : Hp} {av : List Addr} {n : Nat} {c : Value} (x : Chn h H av n c) : ∃ ps, PCh ps n c ∧ ∀ p ∈ ps, h.get? p.1 = some p.2 ∧ H p.1 = none ∧ ∃ vs, p.2.data = .fields vs := by
  induction x with
  | nil => exact ⟨[], .nil, fun p hp => absurd hp (by simp)⟩
  | @cons n a o vs c h1 h2 h3 h4 h5 _ ih =>
    obtain ⟨ps, k1, k2⟩ := ih
    refine ⟨(a, o) :: ps, .cons h2 h3 k1, fun p hp => ?_⟩
    rcases List.mem_cons.mp hp with rfl | hp
    · exact ⟨h1, h4, vs, h2⟩
    · exact k2 p hp
abbrev Cx.mrk (X : Cx) (x : Addr) (ps : List (Addr × Obj)) : Cx := { X with A := X.A.mark (some (.ref x)), calm := false, pn := X.pn ++ ps, xe := notedBy (model X.prog X.w) (X.A.mark (some (.ref x))) X.env (cameBackBy (model X.prog X.w) X.A X.env X.xe) }
section
variable {X : Cx} {pins ps : List (Addr × Obj)} {σ : St} {H : Hp} {s : Shared} {x : Addr} {E : XK}
theorem Cx.Ok.mrk (ok : X.Ok) (x : Addr) (ps : List (Addr × Obj)) : (X.mrk x ps).Ok := ⟨ok.mod, ok.kind, ok.glob, ok.blt, ok.above, ok.inj, ok.has, ok.cab, (fun z => nomatch z), ok.frames, ok.stk, ok.exf, ok.bs, ok.bsz, ok.noex, ok.exfs, ok.funs, ok.frf⟩
theorem Inv.mrk (I : Inv X pins σ H s) (x : Addr) (hp : ∀ p ∈ ps, s.heap.get? p.1 = some p.2 ∧ H p.1 = none ∧ ∃ vs, p.2.data = .fields vs) : Inv (X.mrk x ps) pins σ H s := by
  refine ⟨I.ok.mrk x ps, I.os, I.bare, I.base, I.loc, I.cell, I.free, I.freeC, fun p hm => ?_, I.hok, I.len⟩
  rcases List.mem_append.mp hm with hm | hm
  · rcases List.mem_append.mp hm with hm | hm
    · exact I.pin p (List.mem_append_left _ hm)
    · obtain ⟨g1, g2, vs, g3⟩ := hp p hm
      refine ⟨g1, g2, fun z => ?_, fun z => ?_, fun v q => by rw [g3] at q; cases q⟩
      · obtain ⟨m, ⟨o, es, ep, ho, hd, _⟩, _⟩ := I.loc
        rw [← z, g1] at ho; cases ho; rw [g3] at hd; cases hd
      · obtain ⟨_, o, ho, nf⟩ := I.funs.mem z
        rw [g1] at ho; cases ho; exact nf vs g3
  · exact I.pin p (List.mem_append_right _ hm)
theorem Inv.unmrk (ok : X.Ok) (I : Inv (X.mrk x ps) pins σ H s) : Inv X pins σ H s := ⟨ok, I.os, I.bare, I.base, I.loc, I.cell, I.free, I.freeC, fun p hm => I.pin p (by
  rcases List.mem_append.mp hm with hm | hm
  · exact List.mem_append_left _ (List.mem_append_left _ hm)
  · exact List.mem_append_right _ hm), I.hok, I.len⟩
theorem SP.unmrk (ok : X.Ok) {D : Ends} {f : Flow} {s' : Shared} (h : SP (X.mrk x ps) pins D f s') : SP X pins D f s' := by
  cases f with
  | next => obtain ⟨σ', H', I, q⟩ := h; exact ⟨σ', H', I.unmrk ok, q⟩
  | brk => obtain ⟨σ', H', I, q⟩ := h; exact ⟨σ', H', I.unmrk ok, q⟩
  | cont => obtain ⟨σ', H', I, q⟩ := h; exact ⟨σ', H', I.unmrk ok, q⟩
  | ret u => obtain ⟨v, σ', H', I, r, q⟩ := h; exact ⟨v, σ', H', I.unmrk ok, r, q⟩
theorem clause {C : Addr} {y : Str} {np pos : Pos} {b0 : Stmt} {suite : List Stmt} {rest : List ExceptHandler} {t : TS} {D : Ends} {ev : Value} (hex : X.ex = []) (hC : Own X.K C) (hg : Gl X y) (hm : X.mg y = some (.ref C)) (hsu : ∀ x ps n, PCh ps n (.ref x) → PSs (X.mrk x ps) (b0 :: suite) t)
    (own : ∀ cls d H, E cls d H → ∃ C', cls = .ref C' ∧ Own X.K C') (hit : ∀ d H, E (.ref C) d H → t D σ H) (h : AirAt X pins σ E ev s)
    (miss : ∀ s3, AirAt X pins σ (fun cls d H => E cls d H ∧ cls ≠ .ref C) ev s3 → wpAny (model X.prog X.w) X.A (handleBy ev X.env rest) (SP X pins D) X.xe s3) (hd : (y == ("__debug__" : Str)) = false := by decide) :
    wpAny (model X.prog X.w) X.A (handleBy ev X.env (.ExceptHandler (some (.Name y np)) none (b0 :: suite) pos :: rest)) (SP X pins D) X.xe s := by
  obtain ⟨x, T, cls, c, fl, n, H, rfl, I, ap, ht, hq, he⟩ := id h
  refine wpAny_handleBy_cons (codeAny_handlers_test (ld_glob (X := X.mrk x []) (I.mrk x fun p hp => absurd hp (by simp)) hg hm ?_ hd)) (by intro q; cases q)
  obtain ⟨C', rfl, oC⟩ := own _ _ _ he
  obtain ⟨bm, N, nm, qn, bs, hdct, sn, sub, ab, col, dd, k0, k1, k2, k3, k5, mN, g1, g2, g3, g4⟩ := oC.exc.obj I.kIn
  obtain ⟨bm', N', nm', qn', bs', hdct', sn', sub', ab', col', dd', j0, j1, j2, j3, j5, mN', g1', g2', g3', g4'⟩ := hC.exc.obj I.kIn
  obtain rfl := base_is I.kIn oC.base g1
  obtain rfl := base_is I.kIn hC.base g1'
  obtain ⟨oe, vs, oT, ts, e1, e2, _⟩ := id ht
  obtain ⟨hh, g, d, tk, os⟩ := s
  refine excMatches_own g1 g1' e1 e2.1 (by decide) ?_
  by_cases hc : C' = C
  · subst hc
    have : (Value.ref C' :: EXB).contains (.ref C') = true := by simp
    rw [this]
    have h0 : AirAt X pins σ (fun cls d H => E cls d H ∧ cls = .ref C') (.ref x) ⟨hh, g, d, tk, os⟩ := ⟨x, T, _, c, fl, n, H, rfl, I, ap, ht, hq, he, rfl⟩
    refine codeAny_handlers_suite (air_flight hex h0 fun s3 h3 => ?_)
    obtain ⟨x3, T3, cls3, c3, fl3, n3, H3, q3, I3, ap3, ht3, hq3, he3, rfl⟩ := h3
    cases q3
    obtain ⟨oe3, vs3, _, _, z1, z2, z3, _⟩ := ht3
    have ch : Chn s3.heap H3 [] (n3 + 1) (.ref x) := .cons z1 z3 z2.2 (ap3 x (by simp)).2.2.2.2 (by simp) (hq3.move fun a o vs q1 _ q3 _ => ⟨q1, q3, by simp⟩)
    obtain ⟨ps, p1, p2⟩ := ch.pins
    exact wpAny_mono (hsu x ps _ p1 pins s3 σ H3 D (I3.mrk x p2) (hit _ _ he3)) (fun f s' q => q.unmrk I.ok) (fun _ _ z => z)
  · have : (Value.ref C' :: EXB).contains (.ref C) = false := by
      have e : (Value.ref C == Value.ref C') = false := by simp; exact fun z => hc z.symm
      rw [List.contains_cons, e]; rfl
    rw [this]
    exact miss _ ⟨x, T, _, c, fl, n, H, rfl, I, ap, ht, hq, he, fun z => hc (by cases z; rfl)⟩
def c1 (C : Addr) (u : TS) : Ends → St → XK := fun D σ cls _ H => cls = .ref C ∧ u D σ H
abbrev Cx.tr (X : Cx) (pn : List (Addr × Obj)) (xe : Value → Shared → Prop) : Cx := { X with pn := pn, xe := xe }
def PassesS (X : Cx) (E : St → XK) : Prop := ∀ (pins : List (Addr × Obj)) (σ : St) (H : Hp) (s : Shared) (e : Value) (s' : Shared), Inv X pins σ H s → CX1 X.prog X.w X.stack H s (E σ) e s' → X.xe e s'
def tTry (tb : (St → XK) → TS) (cl : Ends → St → XK) : TS := fun D σ H => tb (cl D) D σ H
theorem Inv.tr {xe : Value → Shared → Prop} (I : Inv X pins σ H s) : Inv (X.tr (X.pn ++ pins) xe) [] σ H s :=
  ⟨⟨I.ok.mod, I.ok.kind, I.ok.glob, I.ok.blt, I.ok.above, I.ok.inj, I.ok.has, I.ok.cab, I.ok.hd, I.ok.frames, I.ok.stk, I.ok.exf, I.ok.bs, I.ok.bsz, I.ok.noex, I.ok.exfs, I.ok.funs, I.ok.frf⟩, I.os, I.bare, I.base, I.loc, I.cell, I.free, I.freeC, fun p hp => I.pin p (by rw [List.append_nil] at hp; exact hp), I.hok, I.len⟩
theorem Inv.untr {xe : Value → Shared → Prop} {pins' : List (Addr × Obj)} (ok : X.Ok) (I : Inv (X.tr (X.pn ++ pins) xe) pins' σ H s) : Inv X pins σ H s := ⟨ok, I.os, I.bare, I.base, I.loc, I.cell, I.free, I.freeC, fun p hp => I.pin p (List.mem_append_left _ hp), I.hok, I.len⟩
theorem SP.untr {xe : Value → Shared → Prop} {pins' : List (Addr × Obj)} (ok : X.Ok) {D : Ends} {f : Flow} {s' : Shared} (h : SP (X.tr (X.pn ++ pins) xe) pins' D f s') : SP X pins D f s' := by
  cases f with
  | next => obtain ⟨σ', H', I, q⟩ := h; exact ⟨σ', H', I.untr ok, q⟩
  | brk => obtain ⟨σ', H', I, q⟩ := h; exact ⟨σ', H', I.untr ok, q⟩
  | cont => obtain ⟨σ', H', I, q⟩ := h; exact ⟨σ', H', I.untr ok, q⟩
  | ret u => obtain ⟨v, σ', H', I, r, q⟩ := h; exact ⟨v, σ', H', I.untr ok, r, q⟩
theorem ps_try {tb : (St → XK) → TS} {cl : Ends → St → XK} {body : List Stmt} {h0 : ExceptHandler} {hs : List ExceptHandler} {pos : Pos} (hex : X.ex = []) (hst : X.stack = X.env :: X.outer) (hfr : X.env.frame = some X.env.locals)
    (hb : ∀ (E : St → XK) (pn : List (Addr × Obj)) (xe : Value → Shared → Prop), PassesS (X.tr pn xe) E → PassesOwn (model X.prog X.w) X.A X.env xe → PSs (X.tr pn xe) body (tb E))
    (hh : ∀ (pins : List (Addr × Obj)) (σ : St) (D : Ends) (ev : Value) (s3 : Shared), AirAt X pins σ (cl D σ) ev s3 → wpAny (model X.prog X.w) X.A (handleBy ev X.env (h0 :: hs)) (SP X pins D) X.xe s3) :
    PS X (.Try body (h0 :: hs) [] [] pos) (tTry tb cl) := by
  intro pins s σ H D I h
  have hp : PassesS (X.tr (X.pn ++ pins) fun ev s => ∃ σ', AirAt X pins σ' (cl D σ') ev s) (cl D) := fun pins' σ' H' s1 e s' I' q => ⟨σ', air_of_CX1 (I'.untr I.ok) hex q⟩
  have ho : PassesOwn (model X.prog X.w) X.A X.env fun ev s => ∃ σ', AirAt X pins σ' (cl D σ') ev s := fun ev s1 ⟨σ', q⟩ => air_note hex hst hfr rfl q fun s2 q2 => air_back hex q2 fun s3 q3 => ⟨σ', q3⟩
  refine wpAny_Try_except (wpAny_mono (hb (cl D) _ _ hp ho [] s σ H D I.tr h) (fun f s1 q => ?_) fun ev s1 ⟨σ', q⟩ => air_note hex hst hfr rfl q fun s2 q2 => air_flight hex q2 fun s3 q3 => hh pins σ' D ev s3 q3)
  have q := q.untr I.ok
  cases f with
  | next => exact wpAny_execs_nil q
  | brk => exact q
  | cont => exact q
  | ret u => exact q
theorem clause1 {C : Addr} {y : Str} {np pos : Pos} {b0 : Stmt} {suite : List Stmt} {u : TS} (hex : X.ex = []) (hC : Own X.K C) (hg : Gl X y) (hm : X.mg y = some (.ref C)) (hsu : ∀ x ps n, PCh ps n (.ref x) → PSs (X.mrk x ps) (b0 :: suite) u) (hd : (y == ("__debug__" : Str)) = false := by decide) :
    ∀ (pins : List (Addr × Obj)) (σ : St) (D : Ends) (ev : Value) (s3 : Shared), AirAt X pins σ (c1 C u D σ) ev s3 → wpAny (model X.prog X.w) X.A (handleBy ev X.env [.ExceptHandler (some (.Name y np)) none (b0 :: suite) pos]) (SP X pins D) X.xe s3 := fun pins σ D ev s3 h => by
  refine clause (t := u) hex hC hg hm hsu (fun cls d H ⟨z, _⟩ => ⟨C, z, hC⟩) (fun d H ⟨_, z⟩ => z) h (fun s3 h3 => ?_) hd
  obtain ⟨_, _, _, _, _, _, _, _, _, _, _, _, ⟨z, _⟩, n⟩ := h3
  exact absurd z n
end
section
variable {X : Cx} {k : Nat} {f : Addr} {fd : FuncData} {ps : List Str} {sp : Sp} {dvs : List V} {ds : List Value} {E : St → XK} {x : Str} {p pos : Pos} {e : Expr} {es : List Expr} {t : TA}
theorem run_fnS {pins : List (Addr × Obj)} {σ : St} {H : Hp} {s : Shared} {Q : VK} {us : List Value} {vs : List V} (F : FnOk X.prog X.w X.K X.mg X.base (CX1 X.prog X.w) k f fd ps sp) (hr : Room k X.A) (hb : Binds X.K fd ps ds) (hd : Vals dvs ds) (hx : PassesS X E)
    (I : Inv X pins σ H s) (r : Vals vs us) (h : sp (vs ++ dvs) H Q (E σ)) : wpAny (model X.prog X.w) X.A (call (.ref f) us) (EP X pins σ Q) X.xe s := by
  have r2 : Vals (vs ++ dvs) (us ++ ds) := r.append hd
  have hl : (us ++ ds).length = ps.length := by rw [← r2.length]; exact F.len _ _ _ _ h
  refine wpAny_call (codeAny_mono (F.run X.A X.stack s H ⟨us, []⟩ (us ++ ds) (vs ++ dvs) Q (E σ) hr I.env0 (hb s us I.kIn hl) r2 h) fun r s' hq => ?_)
  cases r with
  | error e => exact hx pins σ H s e s' I hq
  | ok fl =>
    cases fl with
    | ret u => exact I.after hq
    | next => exact False.elim hq
    | brk => exact False.elim hq
    | cont => exact False.elim hq
end
end L2
namespace L2
open PySem PySem.Spec PyProof.Rows
section
variable {X : Cx}
def tCallV (i : Nat) (tab : Addr → Sp → Prop) (E : St → XK) (t : TA) : TE := fun σ H Q => ∃ f sp, σ[i]? = some (some (.ref f)) ∧ tab f sp ∧ t σ H fun vs H1 => sp vs H1 Q (E σ)
theorem pe_callV {k : Nat} {i : Nat} {tab : Addr → Sp → Prop} {E : St → XK} {x : Str} {p pos : Pos} {e : Expr} {es : List Expr} {t : TA} (hv : PE X (.Name x p) (tVar i)) (htab : ∀ f sp, tab f sp → ∃ fd ps, FnOk X.prog X.w X.K X.mg X.base (CX1 X.prog X.w) k f fd ps sp ∧ PySem.W.keepIn X.K (.ref f) = true ∧ Binds X.K fd ps [])
    (hr : Room k X.A) (hx : PassesS X E) (ha : PA X (e :: es) t) (he : starEach (e :: es) X.env = (false, eval e X.env) :: starEach es X.env := by rfl) (hpl : (backTo pos (starEach es X.env)).any (·.1) = false := by rfl) : PE X (.Call (.Name x p) (e :: es) [] pos) (tCallV i tab E t) := by
  intro pins s σ H Q I h
  obtain ⟨f, sp, h1, h2, h3⟩ := h
  obtain ⟨fd, ps, F, hk, hb⟩ := htab f sp h2
  refine wpAny_Call_Name_kw (thn (hv pins s σ H (fun v H' => v = .ref f ∧ H' = H) I ⟨_, h1, rfl, rfl⟩) fun u s1 ⟨v, H1, I1, r1, e1, e2⟩ => ?_)
  subst e1 e2
  obtain rfl : u = Value.ref f := r1
  refine PySem.W.callWith_K (h₀ := X.base) I1.ok.mod.kin hk (thn (ha pos pins s1 σ H1 _ I1 h3) fun us s2 ⟨vs, H2, I2, r, q⟩ => ⟨I2.kIn, ?_⟩) he hpl
  exact run_fnS (dvs := []) (ds := []) F hr hb .nil hx I2 r (by rw [List.append_nil]; exact q)
end
end L2
namespace L2
open PySem PySem.Spec PyProof.Rows
section
variable {X : Cx}
def rCatS (K : PySem.W.Frag) : R2 := fun x y H Q => ∃ l b xs zs, x = .ref l ∧ y = .ref b ∧ SqL K H l xs ∧ SqL K H b zs ∧ xs.length + zs.length ≤ sizeLine ∧ ∀ p, H p = none → Q (.ref p) (upd H p (.lst (xs ++ zs)))
theorem op_catS : OpR X (binaryOp .Add) (rCatS X.K) := by
  intro pins s σ H x y v u Q I rx ry h
  obtain ⟨l, b, xs, zs, rfl, rfl, hl, hb, hz, q⟩ := h
  cases rx
  cases ry
  obtain ⟨its, r1, ⟨⟨c1, d1, a1, s1⟩, n1, e1, k1, _, t1⟩, _⟩ := I.list hl
  obtain ⟨its2, r2, ⟨⟨c2, d2, a2, s2⟩, n2, e2, k2, _, t2⟩, _⟩ := I.list hb
  simp only at k1 t1 k2 t2
  subst k1 t1 k2 t2
  have ez : its.toArray.size + its2.toArray.size ≤ sizeLine := by rw [List.size_toArray, List.size_toArray, ← r1.length, ← r2.length]; exact hz
  refine concat_meets ⟨_, e1, rfl⟩ ⟨_, e2, rfl⟩ noFill_list_add seq_list_add PySem.F.slot_list_add PySem.F.entry_list_add (PySem.F.args_list_add_2 _ _) (list_addW l b its.toArray its2.toArray n1 n2 d1 d2 s1 s2 ez) ⟨e1, e2, ?_⟩
  have ea : its.toArray ++ its2.toArray = (its ++ its2).toArray := by simp
  rw [ea]
  exact ⟨.ref _, _, I.lnew (t' := s.toks) (r1.append r2) (by rw [List.length_append]; omega), rfl, q _ I.fresh⟩
end
end L2
set_option maxHeartbeats 2000000
namespace L2
open PySem PySem.Spec PyProof.Rows
theorem dpAll_ints {K : PySem.W.Frag} {H : Hp} : ∀ xs : List Int, DpAll K H (xs.map V.int) (xs.map PyData.int)
  | [] => .nil
  | x :: xs => .cons (.int x) (dpAll_ints xs)
theorem lay_ints : ∀ xs : List Int, PyData.canLayAll0 (xs.map PyData.int) = true
  | [] => rfl
  | x :: xs => by
    rw [List.map_cons, PyData.canLayAll0, lay_ints xs]; rfl
theorem deep_ints : ∀ xs : List Int, PyData.depthAll (xs.map PyData.int) ≤ 1
  | [] => by simp [PyData.depthAll]
  | x :: xs => by
    have := deep_ints xs
    rw [List.map_cons, PyData.depthAll]
    simp only [PyData.depth]
    omega
theorem shaped_ints (xs : List Int) : SeqAt.shaped (.list (xs.map PyData.int)) = true := by
  unfold SeqAt.shaped
  rw [Bool.and_eq_true]
  refine ⟨by rw [PyData.canLay0]; exact lay_ints xs, decide_eq_true ?_⟩
  have := deep_ints xs
  rw [PyData.depth]
  omega
theorem eqv_ints : ∀ xs ys : List Int, PyData.eqvAll (xs.map PyData.int) (ys.map PyData.int) = decide (xs = ys)
  | [], [] => by simp [PyData.eqvAll]
  | [], _ :: _ => by simp [PyData.eqvAll]
  | _ :: _, [] => by simp [PyData.eqvAll]
  | x :: xs, y :: ys => by
    rw [List.map_cons, List.map_cons, PyData.eqvAll, eqv_ints xs ys, PyData.eqv]
    by_cases h : x = y
    · by_cases h2 : xs = ys
      · simp [h, h2]
      · simp [h, h2]
    · simp [h]
section
variable {X : Cx}
def rEqL (K : PySem.W.Frag) : R2 := fun x y H Q => ∃ a b, ∃ xs ys : List Int, x = .ref a ∧ y = .ref b ∧ SqL K H a (xs.map V.int) ∧ SqL K H b (ys.map V.int) ∧ Q (.bl (decide (xs = ys))) H
def rNeL (K : PySem.W.Frag) : R2 := fun x y H Q => ∃ a b, ∃ xs ys : List Int, x = .ref a ∧ y = .ref b ∧ SqL K H a (xs.map V.int) ∧ SqL K H b (ys.map V.int) ∧ Q (.bl (!decide (xs = ys))) H
theorem op_eqL (hu : X.A.units + 64 < cLine) : OpR X (compareOp .Eq) (rEqL X.K) := by
  intro pins s σ H x y v u Q I rx ry h
  obtain ⟨a, b, xs, ys, rfl, rfl, ha, hb, q⟩ := h
  refine op_eqD hu pins s σ H _ _ v u Q I rx ry ⟨.list (xs.map PyData.int), .list (ys.map PyData.int), .lst ha (dpAll_ints xs), .lst hb (dpAll_ints ys), shaped_ints xs, shaped_ints ys, ?_⟩
  rw [PyData.eqv, eqv_ints]
  exact q
theorem op_neL (hu : X.A.units + 64 < cLine) : OpR X (compareOp .NotEq) (rNeL X.K) := by
  intro pins s σ H x y v u Q I rx ry h
  obtain ⟨a, b, xs, ys, rfl, rfl, ha, hb, q⟩ := h
  refine op_neD hu pins s σ H _ _ v u Q I rx ry ⟨.list (xs.map PyData.int), .list (ys.map PyData.int), .lst ha (dpAll_ints xs), .lst hb (dpAll_ints ys), shaped_ints xs, shaped_ints ys, ?_⟩
  rw [PyData.eqv, eqv_ints]
  exact q
theorem eqLK {K : PySem.W.Frag} (h : X.K = K) (hu : X.A.units + 64 < cLine) : OpR X (compareOp .Eq) (rEqL K) := by subst h; exact op_eqL hu
end
end L2
namespace Wg
def fromN (l : List Nat) : Nat := l.foldl (fun n c => 256 * n + c) 0
theorem from_eq (b : Sound.Bytes) : Sound.fromHigh b = fromN (b.map UInt8.toNat) := by
  unfold Sound.fromHigh fromN
  rw [List.foldl_map]
def bitN (d : Nat) : Nat := if d % 2 = 1 then (d / 2) ^^^ 0xEDB88320 else d / 2
def STEPS : List Nat := [0, 498536548, 997073096, 651767980, 1994146192, 1802195444, 1303535960, 1342533948, 3988292384, 4027552580, 3604390888, 3412177804, 2607071920, 2262029012, 2685067896, 3183342108]
def nibN (c : Nat) : Nat := (c / 16) ^^^ STEPS.getD (c % 16) 0
def crcBN (c b : Nat) : Nat := nibN (nibN (c ^^^ b))
def crcN (l : List Nat) : Nat := (l.foldl crcBN 0xFFFFFFFF) ^^^ 0xFFFFFFFF
theorem xor_half (a b : Nat) : (a ^^^ b) / 2 = a / 2 ^^^ b / 2 := by
  have := Nat.shiftRight_xor_distrib (a := a) (b := b) (i := 1)
  simpa [Nat.shiftRight_eq_div_pow] using this
theorem bitN_xor (a b : Nat) : bitN (a ^^^ b) = bitN a ^^^ bitN b := by
  unfold bitN
  rw [xor_half]
  have h : (a ^^^ b) % 2 = (a % 2 + b % 2) % 2 := by
    have h1 := Nat.testBit_xor a b 0
    simp only [Nat.testBit_zero] at h1
    rcases Nat.mod_two_eq_zero_or_one a with ha | ha <;> rcases Nat.mod_two_eq_zero_or_one b with hb | hb <;> rcases Nat.mod_two_eq_zero_or_one (a ^^^ b) with hc | hc <;> rw [ha, hb, hc] at h1 <;> first | (rw [ha, hb, hc]; done) | (exact absurd h1 (by decide))
  rcases Nat.mod_two_eq_zero_or_one a with ha | ha <;> rcases Nat.mod_two_eq_zero_or_one b with hb | hb <;> simp only [h, ha, hb]
  · simp
  · simp [Nat.xor_assoc]
  · simp only [Nat.reduceAdd, Nat.reduceMod, if_true]
    rw [if_neg (by decide), Nat.xor_assoc, Nat.xor_assoc, Nat.xor_comm (b / 2)]
  · simp only [Nat.reduceAdd, Nat.reduceMod, if_true]
    rw [if_neg (by decide), Nat.xor_assoc, ← Nat.xor_assoc 3988292384, Nat.xor_comm 3988292384, Nat.xor_assoc (b / 2), Nat.xor_self, Nat.xor_zero]
theorem split16 (d : Nat) : d = (16 * (d / 16)) ^^^ (d % 16) := by
  apply Nat.eq_of_testBit_eq
  intro i
  have e : d = 2 ^ 4 * (d / 16) + d % 16 := by omega
  rw [Nat.testBit_xor, show (16 * (d / 16)) = 2 ^ 4 * (d / 16) by omega, Nat.testBit_two_pow_mul]
  conv => lhs; rw [e, Nat.testBit_two_pow_mul_add _ (by omega)]
  by_cases h : i < 4
  · rw [if_pos h, decide_eq_false (by omega)]; simp
  · rw [if_neg h, decide_eq_true (by omega), show (d % 16).testBit i = false from Nat.testBit_lt_two_pow (Nat.lt_of_lt_of_le (Nat.mod_lt d (by decide)) (by rw [show 16 = 2 ^ 4 by decide]; exact Nat.pow_le_pow_right (by decide) (by omega)))]; simp
theorem bitN_even (q : Nat) : bitN (2 * q) = q := by unfold bitN; rw [if_neg (by omega)]; omega
theorem nib_eq (d : Nat) : nibN d = bitN (bitN (bitN (bitN d))) := by
  have h : ∀ r : Nat, r < 16 → bitN (bitN (bitN (bitN r))) = STEPS.getD r 0 := by decide
  conv => rhs; rw [split16 d]
  simp only [bitN_xor]
  rw [h _ (Nat.mod_lt d (by decide)), show 16 * (d / 16) = 2 * (2 * (2 * (2 * (d / 16)))) by omega]
  simp only [bitN_even]
  rfl
theorem crcB_eq (c : Nat) (x : UInt8) : crcBN c x.toNat = Sound.crc32step c x := by
  unfold crcBN
  rw [nib_eq, nib_eq]
  rfl
theorem crc32_eq (b : Sound.Bytes) : crcN (b.map UInt8.toNat) = Sound.crc32 b := by
  unfold crcN Sound.crc32
  rw [List.foldl_map]
  congr 2
  funext c x
  exact crcB_eq c x
end Wg
namespace Wg
open PySem
theorem and_lo (n m : Nat) : (n &&& m) % 2 = 0 ↔ n % 2 = 0 ∨ m % 2 = 0 := by
  have h := congrArg (· = true) (Nat.testBit_and n m 0)
  simp only [Nat.testBit_zero, Bool.and_eq_true, decide_eq_true_eq, eq_iff_iff] at h
  omega
theorem or_lo (n m : Nat) : (n ||| m) % 2 = 0 ↔ n % 2 = 0 ∧ m % 2 = 0 := by
  have h := congrArg (· = true) (Nat.testBit_or n m 0)
  simp only [Nat.testBit_zero, Bool.or_eq_true, decide_eq_true_eq, eq_iff_iff] at h
  omega
theorem and_hi (n m : Nat) : (n &&& m) / 2 = n / 2 &&& m / 2 := by
  apply Nat.eq_of_testBit_eq; intro i
  rw [Nat.testBit_and, Nat.testBit_div_two, Nat.testBit_div_two, Nat.testBit_div_two, Nat.testBit_and]
theorem or_hi (n m : Nat) : (n ||| m) / 2 = n / 2 ||| m / 2 := by
  apply Nat.eq_of_testBit_eq; intro i
  rw [Nat.testBit_or, Nat.testBit_div_two, Nat.testBit_div_two, Nat.testBit_div_two, Nat.testBit_or]
theorem or_pp {x y : Int} (hx : 0 ≤ x) (hy : 0 ≤ y) : Builtin.bitOr x y = ((x.toNat ||| y.toNat : Nat) : Int) := by
  unfold Builtin.bitOr Builtin.bitAnd Builtin.bitNot
  have h1 : decide (0 ≤ -x - 1) = false := by simp; omega
  have h2 : decide (0 ≤ -y - 1) = false := by simp; omega
  simp only [h1, h2]
  have e1 : (-(-x - 1) - 1).toNat = x.toNat := by congr 1; omega
  have e2 : (-(-y - 1) - 1).toNat = y.toNat := by congr 1; omega
  rw [e1, e2]; omega
end Wg
namespace Wg
open PySem Sound
def bl (n : Nat) : Nat := if n = 0 then 0 else n.log2 + 1
theorem bl_int (n : Nat) : Builtin.Int.intBits (n : Int) = bl n := by
  unfold Builtin.Int.intBits bl
  by_cases h : n = 0
  · subst h; rfl
  · rw [if_neg h, if_neg (by simpa using h), Int.natAbs_natCast]
theorem bl_le {n v : Nat} (h : n < 2 ^ v) : bl n ≤ v := by
  unfold bl
  by_cases h0 : n = 0
  · rw [if_pos h0]; exact Nat.zero_le _
  · rw [if_neg h0]
    exact (Nat.log2_lt h0).mpr h
end Wg
namespace Wg
open PySem
theorem bitOr_nat (a b : Nat) : Builtin.bitOr (a : Int) (b : Int) = ((a ||| b : Nat) : Int) := by
  rw [or_pp (by omega) (by omega), Int.toNat_natCast, Int.toNat_natCast]
theorem bitAnd_nat (a b : Nat) : Builtin.bitAnd (a : Int) (b : Int) = ((a &&& b : Nat) : Int) := by
  unfold Builtin.bitAnd
  have h1 : decide (0 ≤ (a : Int)) = true := by simp
  have h2 : decide (0 ≤ (b : Int)) = true := by simp
  simp only [h1, h2, Int.toNat_natCast]
theorem xor_lo (n m : Nat) : (n ^^^ m) % 2 = (n + m) % 2 := by
  have h := Nat.testBit_xor n m 0
  simp only [Nat.testBit_zero] at h
  rcases Nat.mod_two_eq_zero_or_one n with a | a <;> rcases Nat.mod_two_eq_zero_or_one m with b | b <;> rw [a, b] at h
  · have : ¬ (n ^^^ m) % 2 = 1 := of_decide_eq_false h
    omega
  · have : (n ^^^ m) % 2 = 1 := of_decide_eq_true h
    omega
  · have : (n ^^^ m) % 2 = 1 := of_decide_eq_true h
    omega
  · have : ¬ (n ^^^ m) % 2 = 1 := of_decide_eq_false h
    omega
theorem xor_hi (n m : Nat) : (n ^^^ m) / 2 = n / 2 ^^^ m / 2 := by
  apply Nat.eq_of_testBit_eq; intro i
  rw [Nat.testBit_xor, Nat.testBit_div_two, Nat.testBit_div_two, Nat.testBit_div_two, Nat.testBit_xor]
theorem or_xor : ∀ (k n m : Nat), n ≤ k → m ≤ k → (n ||| m) = (n ^^^ m) + (n &&& m)
  | 0, n, m, h1, h2 => by
    have : n = 0 := by omega
    have : m = 0 := by omega
    subst n m; rfl
  | k + 1, n, m, h1, h2 => by
    by_cases h0 : n = 0 ∧ m = 0
    · obtain ⟨rfl, rfl⟩ := h0; rfl
    have ih := or_xor k (n / 2) (m / 2) (by omega) (by omega)
    have a1 := or_lo n m
    have a2 := xor_lo n m
    have a3 := and_lo n m
    have b1 := or_hi n m
    have b2 := xor_hi n m
    have b3 := and_hi n m
    omega
theorem bitXor_nat (a b : Nat) : Builtin.bitXor (a : Int) (b : Int) = ((a ^^^ b : Nat) : Int) := by
  unfold Builtin.bitXor
  rw [bitOr_nat, bitAnd_nat, or_xor (max a b) a b (by omega) (by omega)]
  omega
end Wg
namespace Wg
open PySem PySem.Spec PyProof.Rows L2
def top (i : Nat) : Stmt := PySem.Challenge.pw_soundkeeping_s09_find.main.body.getD i (.Pass ⟨0, 0, 0, 0⟩)
abbrev s_is_form : Stmt := top 5
abbrev s_from_octets : Stmt := top 9
abbrev s_crc32 : Stmt := top 10
abbrev s_can_be_key : Stmt := top 26
abbrev s_read_tag : Stmt := top 27
abbrev s_read_tags : Stmt := top 28
abbrev s_read_head : Stmt := top 36
abbrev s_head_told : Stmt := top 37
abbrev s_hear_beginning : Stmt := top 40
abbrev s_heard : Stmt := top 41
abbrev s_hear_head : Stmt := top 42
abbrev s_hear_tags : Stmt := top 43
abbrev s_counted : Stmt := top 45
abbrev s_find : Stmt := top 46
abbrev s_Form_init : Stmt := inClass (top 4) 0
abbrev s_Reading_init : Stmt := inClass (top 14) 0
abbrev s_Reading_stop_at : Stmt := inClass (top 14) 1
abbrev s_Reading_end_too_soon : Stmt := inClass (top 14) 2
abbrev s_Reading_take : Stmt := inClass (top 14) 3
abbrev s_Reading_number : Stmt := inClass (top 14) 4
abbrev s_Reading_seal : Stmt := inClass (top 14) 5
abbrev s_Tag_init : Stmt := inClass (top 25) 0
abbrev s_Head_init : Stmt := inClass (top 35) 0
abbrev s_Hearing_init : Stmt := inClass (top 39) 0
set_option genInjectivity false in
structure Adr where
  f_is_form : Addr
  d_is_form : FuncData
  f_from_octets : Addr
  d_from_octets : FuncData
  f_crc32 : Addr
  d_crc32 : FuncData
  f_can_be_key : Addr
  d_can_be_key : FuncData
  f_read_tag : Addr
  d_read_tag : FuncData
  f_read_tags : Addr
  d_read_tags : FuncData
  f_read_head : Addr
  d_read_head : FuncData
  f_head_told : Addr
  d_head_told : FuncData
  f_hear_beginning : Addr
  d_hear_beginning : FuncData
  f_heard : Addr
  d_heard : FuncData
  f_hear_head : Addr
  d_hear_head : FuncData
  f_hear_tags : Addr
  d_hear_tags : FuncData
  f_counted : Addr
  d_counted : FuncData
  f_find : Addr
  d_find : FuncData
  f_Form_init : Addr
  d_Form_init : FuncData
  f_Reading_init : Addr
  d_Reading_init : FuncData
  f_Reading_stop_at : Addr
  d_Reading_stop_at : FuncData
  f_Reading_end_too_soon : Addr
  d_Reading_end_too_soon : FuncData
  f_Reading_take : Addr
  d_Reading_take : FuncData
  f_Reading_number : Addr
  d_Reading_number : FuncData
  f_Reading_seal : Addr
  d_Reading_seal : FuncData
  f_Tag_init : Addr
  d_Tag_init : FuncData
  f_Head_init : Addr
  d_Head_init : FuncData
  f_Hearing_init : Addr
  d_Hearing_init : FuncData
  c_Form : Addr
  c_Reading : Addr
  c_Tag : Addr
  c_Head : Addr
  c_Hearing : Addr
  c_Faulty : Addr
  t_MOST_NUMBERS : Tok
  t_CRC32_SIZE : Tok
  t_ENDS_TOO_SOON : Tok
  t_BAD_TAGS : Tok
  t_BAD_TAGS_CHECK : Tok
  t_MOST_TAGS : Tok
  t_LONGEST_KEY : Tok
  t_COUNT_SIZE : Tok
  t_VALUE_LENGTH_SIZE : Tok
  t_LEAST_TAGS_SIZE : Tok
  t_MOST_TAGS_SIZE : Tok
  t_EQUALS_SIGN : Tok
  t_ORDER : Tok
  t_BAD_MARK : Tok
  t_BAD_SHAPE : Tok
  t_BAD_HEAD_CHECK : Tok
  a_CRC32_STEPS : Addr
  a_MARK_heads : Addr
  a_RANGES : Addr
  a_RANGES_0 : Addr
  a_RANGES_1 : Addr
  a_RANGES_2 : Addr
  a_RANGES_3 : Addr
  a_RANGES_4 : Addr
  a_RANGES_5 : Addr
structure Txt (K : PySem.W.Frag) (mg : Str → Option Value) (A : Adr) : Prop where
  F_is_form : Fun K "is_form" "is_form" s_is_form A.f_is_form A.d_is_form
  b_is_form : Binds K A.d_is_form ["form"] []
  m_is_form : mg "is_form" = some (.ref A.f_is_form)
  F_from_octets : Fun K "from_octets" "from_octets" s_from_octets A.f_from_octets A.d_from_octets
  b_from_octets : Binds K A.d_from_octets ["data"] []
  m_from_octets : mg "from_octets" = some (.ref A.f_from_octets)
  F_crc32 : Fun K "crc32" "crc32" s_crc32 A.f_crc32 A.d_crc32
  b_crc32 : Binds K A.d_crc32 ["data"] []
  m_crc32 : mg "crc32" = some (.ref A.f_crc32)
  F_can_be_key : Fun K "can_be_key" "can_be_key" s_can_be_key A.f_can_be_key A.d_can_be_key
  b_can_be_key : Binds K A.d_can_be_key ["key"] []
  m_can_be_key : mg "can_be_key" = some (.ref A.f_can_be_key)
  F_read_tag : Fun K "read_tag" "read_tag" s_read_tag A.f_read_tag A.d_read_tag
  b_read_tag : Binds K A.d_read_tag ["reading", "end", "tags"] []
  m_read_tag : mg "read_tag" = some (.ref A.f_read_tag)
  F_read_tags : Fun K "read_tags" "read_tags" s_read_tags A.f_read_tags A.d_read_tags
  b_read_tags : Binds K A.d_read_tags ["reading", "size", "tags"] []
  m_read_tags : mg "read_tags" = some (.ref A.f_read_tags)
  F_read_head : Fun K "read_head" "read_head" s_read_head A.f_read_head A.d_read_head
  b_read_head : Binds K A.d_read_head ["reading"] []
  m_read_head : mg "read_head" = some (.ref A.f_read_head)
  F_head_told : Fun K "head_told" "head_told" s_head_told A.f_head_told A.d_head_told
  b_head_told : Binds K A.d_head_told ["data"] []
  m_head_told : mg "head_told" = some (.ref A.f_head_told)
  F_hear_beginning : Fun K "hear_beginning" "hear_beginning" s_hear_beginning A.f_hear_beginning A.d_hear_beginning
  b_hear_beginning : Binds K A.d_hear_beginning ["data"] []
  m_hear_beginning : mg "hear_beginning" = some (.ref A.f_hear_beginning)
  F_heard : Fun K "heard" "heard" s_heard A.f_heard A.d_heard
  b_heard : Binds K A.d_heard ["data", "stages"] []
  m_heard : mg "heard" = some (.ref A.f_heard)
  F_hear_head : Fun K "hear_head" "hear_head" s_hear_head A.f_hear_head A.d_hear_head
  b_hear_head : Binds K A.d_hear_head ["hearing"] []
  m_hear_head : mg "hear_head" = some (.ref A.f_hear_head)
  F_hear_tags : Fun K "hear_tags" "hear_tags" s_hear_tags A.f_hear_tags A.d_hear_tags
  b_hear_tags : Binds K A.d_hear_tags ["hearing"] []
  m_hear_tags : mg "hear_tags" = some (.ref A.f_hear_tags)
  F_counted : Fun K "counted" "counted" s_counted A.f_counted A.d_counted
  b_counted : Binds K A.d_counted ["data"] []
  m_counted : mg "counted" = some (.ref A.f_counted)
  F_find : Fun K "find" "find" s_find A.f_find A.d_find
  b_find : Binds K A.d_find ["file", "key"] []
  m_find : mg "find" = some (.ref A.f_find)
  F_Form_init : Fun K "__init__" "Form.__init__" s_Form_init A.f_Form_init A.d_Form_init
  b_Form_init : Binds K A.d_Form_init ["self", "form"] []
  F_Reading_init : Fun K "__init__" "Reading.__init__" s_Reading_init A.f_Reading_init A.d_Reading_init
  b_Reading_init : Binds K A.d_Reading_init ["self", "data"] []
  F_Reading_stop_at : Fun K "stop_at" "Reading.stop_at" s_Reading_stop_at A.f_Reading_stop_at A.d_Reading_stop_at
  b_Reading_stop_at : Binds K A.d_Reading_stop_at ["self", "fault", "place"] []
  e_Reading_stop_at : Meth K A.c_Reading "stop_at" A.f_Reading_stop_at
  F_Reading_end_too_soon : Fun K "end_too_soon" "Reading.end_too_soon" s_Reading_end_too_soon A.f_Reading_end_too_soon A.d_Reading_end_too_soon
  b_Reading_end_too_soon : Binds K A.d_Reading_end_too_soon ["self"] []
  e_Reading_end_too_soon : Meth K A.c_Reading "end_too_soon" A.f_Reading_end_too_soon
  F_Reading_take : Fun K "take" "Reading.take" s_Reading_take A.f_Reading_take A.d_Reading_take
  b_Reading_take : Binds K A.d_Reading_take ["self", "count"] []
  e_Reading_take : Meth K A.c_Reading "take" A.f_Reading_take
  F_Reading_number : Fun K "number" "Reading.number" s_Reading_number A.f_Reading_number A.d_Reading_number
  b_Reading_number : Binds K A.d_Reading_number ["self", "count"] []
  e_Reading_number : Meth K A.c_Reading "number" A.f_Reading_number
  F_Reading_seal : Fun K "seal" "Reading.seal" s_Reading_seal A.f_Reading_seal A.d_Reading_seal
  b_Reading_seal : Binds K A.d_Reading_seal ["self", "begin", "fault"] []
  e_Reading_seal : Meth K A.c_Reading "seal" A.f_Reading_seal
  F_Tag_init : Fun K "__init__" "Tag.__init__" s_Tag_init A.f_Tag_init A.d_Tag_init
  b_Tag_init : Binds K A.d_Tag_init ["self", "key", "value"] []
  F_Head_init : Fun K "__init__" "Head.__init__" s_Head_init A.f_Head_init A.d_Head_init
  b_Head_init : Binds K A.d_Head_init ["self", "form", "samples", "tags_size"] []
  F_Hearing_init : Fun K "__init__" "Hearing.__init__" s_Hearing_init A.f_Hearing_init A.d_Hearing_init
  b_Hearing_init : Binds K A.d_Hearing_init ["self", "data"] []
  l_Form : Cls K A.c_Form
  m_Form : mg "Form" = some (.ref A.c_Form)
  k_Form : Mk K A.c_Form A.f_Form_init
  n_Form_channels : NoAttr K A.c_Form "channels"
  n_Form_depth : NoAttr K A.c_Form "depth"
  n_Form_block : NoAttr K A.c_Form "block"
  n_Form_order : NoAttr K A.c_Form "order"
  n_Form_group : NoAttr K A.c_Form "group"
  n_Form_spare : NoAttr K A.c_Form "spare"
  l_Reading : Cls K A.c_Reading
  m_Reading : mg "Reading" = some (.ref A.c_Reading)
  k_Reading : Mk K A.c_Reading A.f_Reading_init
  n_Reading_data : NoAttr K A.c_Reading "data"
  n_Reading_place : NoAttr K A.c_Reading "place"
  n_Reading_fault : NoAttr K A.c_Reading "fault"
  n_Reading_fault_place : NoAttr K A.c_Reading "fault_place"
  l_Tag : Cls K A.c_Tag
  m_Tag : mg "Tag" = some (.ref A.c_Tag)
  k_Tag : Mk K A.c_Tag A.f_Tag_init
  n_Tag_key : NoAttr K A.c_Tag "key"
  n_Tag_value : NoAttr K A.c_Tag "value"
  l_Head : Cls K A.c_Head
  m_Head : mg "Head" = some (.ref A.c_Head)
  k_Head : Mk K A.c_Head A.f_Head_init
  n_Head_form : NoAttr K A.c_Head "form"
  n_Head_samples : NoAttr K A.c_Head "samples"
  n_Head_tags_size : NoAttr K A.c_Head "tags_size"
  l_Hearing : Cls K A.c_Hearing
  m_Hearing : mg "Hearing" = some (.ref A.c_Hearing)
  k_Hearing : Mk K A.c_Hearing A.f_Hearing_init
  n_Hearing_reading : NoAttr K A.c_Hearing "reading"
  n_Hearing_head : NoAttr K A.c_Hearing "head"
  n_Hearing_tags : NoAttr K A.c_Hearing "tags"
  n_Hearing_starts : NoAttr K A.c_Hearing "starts"
  n_Hearing_index_bytes : NoAttr K A.c_Hearing "index_bytes"
  n_Hearing_frames_taken : NoAttr K A.c_Hearing "frames_taken"
  n_Hearing_numbers : NoAttr K A.c_Hearing "numbers"
  m_Faulty : mg "Faulty" = some (.ref A.c_Faulty)
  x_Faulty : Own K A.c_Faulty
  g_MOST_NUMBERS : mg "MOST_NUMBERS" = some (.int 2048 A.t_MOST_NUMBERS)
  g_CRC32_SIZE : mg "CRC32_SIZE" = some (.int 4 A.t_CRC32_SIZE)
  g_ENDS_TOO_SOON : mg "ENDS_TOO_SOON" = some (.int 1 A.t_ENDS_TOO_SOON)
  g_BAD_TAGS : mg "BAD_TAGS" = some (.int 5 A.t_BAD_TAGS)
  g_BAD_TAGS_CHECK : mg "BAD_TAGS_CHECK" = some (.int 6 A.t_BAD_TAGS_CHECK)
  g_MOST_TAGS : mg "MOST_TAGS" = some (.int 16 A.t_MOST_TAGS)
  g_LONGEST_KEY : mg "LONGEST_KEY" = some (.int 32 A.t_LONGEST_KEY)
  g_COUNT_SIZE : mg "COUNT_SIZE" = some (.int 2 A.t_COUNT_SIZE)
  g_VALUE_LENGTH_SIZE : mg "VALUE_LENGTH_SIZE" = some (.int 2 A.t_VALUE_LENGTH_SIZE)
  g_LEAST_TAGS_SIZE : mg "LEAST_TAGS_SIZE" = some (.int 6 A.t_LEAST_TAGS_SIZE)
  g_MOST_TAGS_SIZE : mg "MOST_TAGS_SIZE" = some (.int 1024 A.t_MOST_TAGS_SIZE)
  g_EQUALS_SIGN : mg "EQUALS_SIGN" = some (.int 61 A.t_EQUALS_SIGN)
  g_ORDER : mg "ORDER" = some (.int 4 A.t_ORDER)
  g_BAD_MARK : mg "BAD_MARK" = some (.int 2 A.t_BAD_MARK)
  g_BAD_SHAPE : mg "BAD_SHAPE" = some (.int 3 A.t_BAD_SHAPE)
  g_BAD_HEAD_CHECK : mg "BAD_HEAD_CHECK" = some (.int 4 A.t_BAD_HEAD_CHECK)
  g_RANGES : mg "RANGES" = some (.ref A.a_RANGES)
  q_RANGES : ∀ H, SqT K H A.a_RANGES [V.ref A.a_RANGES_0, V.ref A.a_RANGES_1, V.ref A.a_RANGES_2, V.ref A.a_RANGES_3, V.ref A.a_RANGES_4, V.ref A.a_RANGES_5]
  q_RANGES_0 : ∀ H, SqT K H A.a_RANGES_0 [V.int (1), V.int (4)]
  q_RANGES_1 : ∀ H, SqT K H A.a_RANGES_1 [V.int (4), V.int (24)]
  q_RANGES_2 : ∀ H, SqT K H A.a_RANGES_2 [V.int (16), V.int (256)]
  q_RANGES_3 : ∀ H, SqT K H A.a_RANGES_3 [V.int (0), V.int (4)]
  q_RANGES_4 : ∀ H, SqT K H A.a_RANGES_4 [V.int (1), V.int (8)]
  q_RANGES_5 : ∀ H, SqT K H A.a_RANGES_5 [V.int (0), V.int (4)]
  g_CRC32_STEPS : mg "CRC32_STEPS" = some (.ref A.a_CRC32_STEPS)
  q_CRC32_STEPS : ∀ H, SqT K H A.a_CRC32_STEPS [V.int (0), V.int (498536548), V.int (997073096), V.int (651767980), V.int (1994146192), V.int (1802195444), V.int (1303535960), V.int (1342533948), V.int (3988292384), V.int (4027552580), V.int (3604390888), V.int (3412177804), V.int (2607071920), V.int (2262029012), V.int (2685067896), V.int (3183342108)]
  g_MARK_heads : mg "MARK" = some (.ref A.a_MARK_heads)
  q_MARK_heads : ∀ H, SqT K H A.a_MARK_heads [V.int (83), V.int (75), V.int (69), V.int (69), V.int (80), V.int (1), V.int (13), V.int (10)]
  z_all : mg "all" = none
  z_any : mg "any" = none
  z_enumerate : mg "enumerate" = none
  z_len : mg "len" = none
  z_list : mg "list" = none
  z_range : mg "range" = none
  z_zip : mg "zip" = none
  entry : ∀ (s : Shared) (us : List Value), us.length = (["file", "key"] : List Str).length → BindsTo s A.d_find ⟨us, []⟩ ((["file", "key"] : List Str).zip us)
set_option maxHeartbeats 0 in
theorem txt_mk {K : PySem.W.Frag} {h : Heap} {mg : Str → Option Value} (X : K.In h) (G : h.Ns mainGlobals mg)
    {c_Faulty : Addr}
    {c_Hearing : Addr}
    {c_Head : Addr}
    {c_Tag : Addr}
    {c_Reading : Addr}
    {c_Form : Addr}
    {f_is_form : Addr} {od_is_form an_is_form : Option Addr} {sl_is_form : Array (Option Value)} {oc_is_form kV_is_form dc_is_form pm_is_form cd_is_form ct_is_form : Value}
    {f_from_octets : Addr} {od_from_octets an_from_octets : Option Addr} {sl_from_octets : Array (Option Value)} {oc_from_octets kV_from_octets dc_from_octets pm_from_octets cd_from_octets ct_from_octets : Value}
    {f_crc32 : Addr} {od_crc32 an_crc32 : Option Addr} {sl_crc32 : Array (Option Value)} {oc_crc32 kV_crc32 dc_crc32 pm_crc32 cd_crc32 ct_crc32 : Value}
    {f_can_be_key : Addr} {od_can_be_key an_can_be_key : Option Addr} {sl_can_be_key : Array (Option Value)} {oc_can_be_key kV_can_be_key dc_can_be_key pm_can_be_key cd_can_be_key ct_can_be_key : Value}
    {f_read_tag : Addr} {od_read_tag an_read_tag : Option Addr} {sl_read_tag : Array (Option Value)} {oc_read_tag kV_read_tag dc_read_tag pm_read_tag cd_read_tag ct_read_tag : Value}
    {f_read_tags : Addr} {od_read_tags an_read_tags : Option Addr} {sl_read_tags : Array (Option Value)} {oc_read_tags kV_read_tags dc_read_tags pm_read_tags cd_read_tags ct_read_tags : Value}
    {f_read_head : Addr} {od_read_head an_read_head : Option Addr} {sl_read_head : Array (Option Value)} {oc_read_head kV_read_head dc_read_head pm_read_head cd_read_head ct_read_head : Value}
    {f_head_told : Addr} {od_head_told an_head_told : Option Addr} {sl_head_told : Array (Option Value)} {oc_head_told kV_head_told dc_head_told pm_head_told cd_head_told ct_head_told : Value}
    {f_hear_beginning : Addr} {od_hear_beginning an_hear_beginning : Option Addr} {sl_hear_beginning : Array (Option Value)} {oc_hear_beginning kV_hear_beginning dc_hear_beginning pm_hear_beginning cd_hear_beginning ct_hear_beginning : Value}
    {f_heard : Addr} {od_heard an_heard : Option Addr} {sl_heard : Array (Option Value)} {oc_heard kV_heard dc_heard pm_heard cd_heard ct_heard : Value}
    {f_hear_head : Addr} {od_hear_head an_hear_head : Option Addr} {sl_hear_head : Array (Option Value)} {oc_hear_head kV_hear_head dc_hear_head pm_hear_head cd_hear_head ct_hear_head : Value}
    {f_hear_tags : Addr} {od_hear_tags an_hear_tags : Option Addr} {sl_hear_tags : Array (Option Value)} {oc_hear_tags kV_hear_tags dc_hear_tags pm_hear_tags cd_hear_tags ct_hear_tags : Value}
    {f_counted : Addr} {od_counted an_counted : Option Addr} {sl_counted : Array (Option Value)} {oc_counted kV_counted dc_counted pm_counted cd_counted ct_counted : Value}
    {f_find : Addr} {od_find an_find : Option Addr} {sl_find : Array (Option Value)} {oc_find kV_find dc_find pm_find cd_find ct_find : Value}
    {f_Form_init : Addr} {od_Form_init an_Form_init : Option Addr} {sl_Form_init : Array (Option Value)} {oc_Form_init kV_Form_init dc_Form_init pm_Form_init cd_Form_init ct_Form_init : Value}
    {f_Reading_init : Addr} {od_Reading_init an_Reading_init : Option Addr} {sl_Reading_init : Array (Option Value)} {oc_Reading_init kV_Reading_init dc_Reading_init pm_Reading_init cd_Reading_init ct_Reading_init : Value}
    {f_Reading_stop_at : Addr} {od_Reading_stop_at an_Reading_stop_at : Option Addr} {sl_Reading_stop_at : Array (Option Value)} {oc_Reading_stop_at kV_Reading_stop_at dc_Reading_stop_at pm_Reading_stop_at cd_Reading_stop_at ct_Reading_stop_at : Value}
    {f_Reading_end_too_soon : Addr} {od_Reading_end_too_soon an_Reading_end_too_soon : Option Addr} {sl_Reading_end_too_soon : Array (Option Value)} {oc_Reading_end_too_soon kV_Reading_end_too_soon dc_Reading_end_too_soon pm_Reading_end_too_soon cd_Reading_end_too_soon ct_Reading_end_too_soon : Value}
    {f_Reading_take : Addr} {od_Reading_take an_Reading_take : Option Addr} {sl_Reading_take : Array (Option Value)} {oc_Reading_take kV_Reading_take dc_Reading_take pm_Reading_take cd_Reading_take ct_Reading_take : Value}
    {f_Reading_number : Addr} {od_Reading_number an_Reading_number : Option Addr} {sl_Reading_number : Array (Option Value)} {oc_Reading_number kV_Reading_number dc_Reading_number pm_Reading_number cd_Reading_number ct_Reading_number : Value}
    {f_Reading_seal : Addr} {od_Reading_seal an_Reading_seal : Option Addr} {sl_Reading_seal : Array (Option Value)} {oc_Reading_seal kV_Reading_seal dc_Reading_seal pm_Reading_seal cd_Reading_seal ct_Reading_seal : Value}
    {f_Tag_init : Addr} {od_Tag_init an_Tag_init : Option Addr} {sl_Tag_init : Array (Option Value)} {oc_Tag_init kV_Tag_init dc_Tag_init pm_Tag_init cd_Tag_init ct_Tag_init : Value}
    {f_Head_init : Addr} {od_Head_init an_Head_init : Option Addr} {sl_Head_init : Array (Option Value)} {oc_Head_init kV_Head_init dc_Head_init pm_Head_init cd_Head_init ct_Head_init : Value}
    {f_Hearing_init : Addr} {od_Hearing_init an_Hearing_init : Option Addr} {sl_Hearing_init : Array (Option Value)} {oc_Hearing_init kV_Hearing_init dc_Hearing_init pm_Hearing_init cd_Hearing_init ct_Hearing_init : Value}
    {t_MOST_NUMBERS : Tok}
    {t_CRC32_SIZE : Tok}
    {t_ENDS_TOO_SOON : Tok}
    {t_BAD_TAGS : Tok}
    {t_BAD_TAGS_CHECK : Tok}
    {t_MOST_TAGS : Tok}
    {t_LONGEST_KEY : Tok}
    {t_COUNT_SIZE : Tok}
    {t_VALUE_LENGTH_SIZE : Tok}
    {t_LEAST_TAGS_SIZE : Tok}
    {t_MOST_TAGS_SIZE : Tok}
    {t_EQUALS_SIGN : Tok}
    {t_ORDER : Tok}
    {t_BAD_MARK : Tok}
    {t_BAD_SHAPE : Tok}
    {t_BAD_HEAD_CHECK : Tok}
    {a_RANGES a_RANGES_0 a_RANGES_1 a_RANGES_2 a_RANGES_3 a_RANGES_4 a_RANGES_5 : Addr} {dT_RANGES : Option Addr} {nT_RANGES : Nat} {sT_RANGES : Array (Option Value)}
    {dT_RANGES_0 : Option Addr} {nT_RANGES_0 : Nat} {sT_RANGES_0 : Array (Option Value)}
    {tk_RANGES_0_0 tk_RANGES_0_1 : Tok}
    {dT_RANGES_1 : Option Addr} {nT_RANGES_1 : Nat} {sT_RANGES_1 : Array (Option Value)}
    {tk_RANGES_1_0 tk_RANGES_1_1 : Tok}
    {dT_RANGES_2 : Option Addr} {nT_RANGES_2 : Nat} {sT_RANGES_2 : Array (Option Value)}
    {tk_RANGES_2_0 tk_RANGES_2_1 : Tok}
    {dT_RANGES_3 : Option Addr} {nT_RANGES_3 : Nat} {sT_RANGES_3 : Array (Option Value)}
    {tk_RANGES_3_0 tk_RANGES_3_1 : Tok}
    {dT_RANGES_4 : Option Addr} {nT_RANGES_4 : Nat} {sT_RANGES_4 : Array (Option Value)}
    {tk_RANGES_4_0 tk_RANGES_4_1 : Tok}
    {dT_RANGES_5 : Option Addr} {nT_RANGES_5 : Nat} {sT_RANGES_5 : Array (Option Value)}
    {tk_RANGES_5_0 tk_RANGES_5_1 : Tok}
    {a_CRC32_STEPS : Addr} {dT_CRC32_STEPS : Option Addr} {nT_CRC32_STEPS : Nat} {sT_CRC32_STEPS : Array (Option Value)} {tk_CRC32_STEPS_0 tk_CRC32_STEPS_1 tk_CRC32_STEPS_2 tk_CRC32_STEPS_3 tk_CRC32_STEPS_4 tk_CRC32_STEPS_5 tk_CRC32_STEPS_6 tk_CRC32_STEPS_7 tk_CRC32_STEPS_8 tk_CRC32_STEPS_9 tk_CRC32_STEPS_10 tk_CRC32_STEPS_11 tk_CRC32_STEPS_12 tk_CRC32_STEPS_13 tk_CRC32_STEPS_14 tk_CRC32_STEPS_15 : Tok}
    {a_MARK_heads : Addr} {dT_MARK_heads : Option Addr} {nT_MARK_heads : Nat} {sT_MARK_heads : Array (Option Value)} {tk_MARK_heads_0 tk_MARK_heads_1 tk_MARK_heads_2 tk_MARK_heads_3 tk_MARK_heads_4 tk_MARK_heads_5 tk_MARK_heads_6 tk_MARK_heads_7 : Tok}
    (a_Form : PySem.W.nsIn K mainGlobals "Form" = some (some (.ref c_Form)))
    (a_Reading : PySem.W.nsIn K mainGlobals "Reading" = some (some (.ref c_Reading)))
    (a_Tag : PySem.W.nsIn K mainGlobals "Tag" = some (some (.ref c_Tag)))
    (a_Head : PySem.W.nsIn K mainGlobals "Head" = some (some (.ref c_Head)))
    (a_Hearing : PySem.W.nsIn K mainGlobals "Hearing" = some (some (.ref c_Hearing)))
    (a_Faulty : PySem.W.nsIn K mainGlobals "Faulty" = some (some (.ref c_Faulty)))
    (a_is_form : PySem.W.nsIn K mainGlobals "is_form" = some (some (.ref f_is_form)))
    (l_is_form : K.lookup f_is_form = some ⟨oc_is_form, od_is_form, .func (PySem.W.fnOf "is_form" "is_form" (defArgs s_is_form) (defBody s_is_form) (defScope s_is_form) .none kV_is_form dc_is_form pm_is_form an_is_form cd_is_form ct_is_form), sl_is_form⟩)
    (c_is_form : PySem.W.codeIn K cd_is_form "is_form" = true)
    (k_is_form : PySem.W.keepIn K (.ref f_is_form) = true)
    (a_from_octets : PySem.W.nsIn K mainGlobals "from_octets" = some (some (.ref f_from_octets)))
    (l_from_octets : K.lookup f_from_octets = some ⟨oc_from_octets, od_from_octets, .func (PySem.W.fnOf "from_octets" "from_octets" (defArgs s_from_octets) (defBody s_from_octets) (defScope s_from_octets) .none kV_from_octets dc_from_octets pm_from_octets an_from_octets cd_from_octets ct_from_octets), sl_from_octets⟩)
    (c_from_octets : PySem.W.codeIn K cd_from_octets "from_octets" = true)
    (k_from_octets : PySem.W.keepIn K (.ref f_from_octets) = true)
    (a_crc32 : PySem.W.nsIn K mainGlobals "crc32" = some (some (.ref f_crc32)))
    (l_crc32 : K.lookup f_crc32 = some ⟨oc_crc32, od_crc32, .func (PySem.W.fnOf "crc32" "crc32" (defArgs s_crc32) (defBody s_crc32) (defScope s_crc32) .none kV_crc32 dc_crc32 pm_crc32 an_crc32 cd_crc32 ct_crc32), sl_crc32⟩)
    (c_crc32 : PySem.W.codeIn K cd_crc32 "crc32" = true)
    (k_crc32 : PySem.W.keepIn K (.ref f_crc32) = true)
    (a_can_be_key : PySem.W.nsIn K mainGlobals "can_be_key" = some (some (.ref f_can_be_key)))
    (l_can_be_key : K.lookup f_can_be_key = some ⟨oc_can_be_key, od_can_be_key, .func (PySem.W.fnOf "can_be_key" "can_be_key" (defArgs s_can_be_key) (defBody s_can_be_key) (defScope s_can_be_key) .none kV_can_be_key dc_can_be_key pm_can_be_key an_can_be_key cd_can_be_key ct_can_be_key), sl_can_be_key⟩)
    (c_can_be_key : PySem.W.codeIn K cd_can_be_key "can_be_key" = true)
    (k_can_be_key : PySem.W.keepIn K (.ref f_can_be_key) = true)
    (a_read_tag : PySem.W.nsIn K mainGlobals "read_tag" = some (some (.ref f_read_tag)))
    (l_read_tag : K.lookup f_read_tag = some ⟨oc_read_tag, od_read_tag, .func (PySem.W.fnOf "read_tag" "read_tag" (defArgs s_read_tag) (defBody s_read_tag) (defScope s_read_tag) .none kV_read_tag dc_read_tag pm_read_tag an_read_tag cd_read_tag ct_read_tag), sl_read_tag⟩)
    (c_read_tag : PySem.W.codeIn K cd_read_tag "read_tag" = true)
    (k_read_tag : PySem.W.keepIn K (.ref f_read_tag) = true)
    (a_read_tags : PySem.W.nsIn K mainGlobals "read_tags" = some (some (.ref f_read_tags)))
    (l_read_tags : K.lookup f_read_tags = some ⟨oc_read_tags, od_read_tags, .func (PySem.W.fnOf "read_tags" "read_tags" (defArgs s_read_tags) (defBody s_read_tags) (defScope s_read_tags) .none kV_read_tags dc_read_tags pm_read_tags an_read_tags cd_read_tags ct_read_tags), sl_read_tags⟩)
    (c_read_tags : PySem.W.codeIn K cd_read_tags "read_tags" = true)
    (k_read_tags : PySem.W.keepIn K (.ref f_read_tags) = true)
    (a_read_head : PySem.W.nsIn K mainGlobals "read_head" = some (some (.ref f_read_head)))
    (l_read_head : K.lookup f_read_head = some ⟨oc_read_head, od_read_head, .func (PySem.W.fnOf "read_head" "read_head" (defArgs s_read_head) (defBody s_read_head) (defScope s_read_head) .none kV_read_head dc_read_head pm_read_head an_read_head cd_read_head ct_read_head), sl_read_head⟩)
    (c_read_head : PySem.W.codeIn K cd_read_head "read_head" = true)
    (k_read_head : PySem.W.keepIn K (.ref f_read_head) = true)
    (a_head_told : PySem.W.nsIn K mainGlobals "head_told" = some (some (.ref f_head_told)))
    (l_head_told : K.lookup f_head_told = some ⟨oc_head_told, od_head_told, .func (PySem.W.fnOf "head_told" "head_told" (defArgs s_head_told) (defBody s_head_told) (defScope s_head_told) .none kV_head_told dc_head_told pm_head_told an_head_told cd_head_told ct_head_told), sl_head_told⟩)
    (c_head_told : PySem.W.codeIn K cd_head_told "head_told" = true)
    (k_head_told : PySem.W.keepIn K (.ref f_head_told) = true)
    (a_hear_beginning : PySem.W.nsIn K mainGlobals "hear_beginning" = some (some (.ref f_hear_beginning)))
    (l_hear_beginning : K.lookup f_hear_beginning = some ⟨oc_hear_beginning, od_hear_beginning, .func (PySem.W.fnOf "hear_beginning" "hear_beginning" (defArgs s_hear_beginning) (defBody s_hear_beginning) (defScope s_hear_beginning) .none kV_hear_beginning dc_hear_beginning pm_hear_beginning an_hear_beginning cd_hear_beginning ct_hear_beginning), sl_hear_beginning⟩)
    (c_hear_beginning : PySem.W.codeIn K cd_hear_beginning "hear_beginning" = true)
    (k_hear_beginning : PySem.W.keepIn K (.ref f_hear_beginning) = true)
    (a_heard : PySem.W.nsIn K mainGlobals "heard" = some (some (.ref f_heard)))
    (l_heard : K.lookup f_heard = some ⟨oc_heard, od_heard, .func (PySem.W.fnOf "heard" "heard" (defArgs s_heard) (defBody s_heard) (defScope s_heard) .none kV_heard dc_heard pm_heard an_heard cd_heard ct_heard), sl_heard⟩)
    (c_heard : PySem.W.codeIn K cd_heard "heard" = true)
    (k_heard : PySem.W.keepIn K (.ref f_heard) = true)
    (a_hear_head : PySem.W.nsIn K mainGlobals "hear_head" = some (some (.ref f_hear_head)))
    (l_hear_head : K.lookup f_hear_head = some ⟨oc_hear_head, od_hear_head, .func (PySem.W.fnOf "hear_head" "hear_head" (defArgs s_hear_head) (defBody s_hear_head) (defScope s_hear_head) .none kV_hear_head dc_hear_head pm_hear_head an_hear_head cd_hear_head ct_hear_head), sl_hear_head⟩)
    (c_hear_head : PySem.W.codeIn K cd_hear_head "hear_head" = true)
    (k_hear_head : PySem.W.keepIn K (.ref f_hear_head) = true)
    (a_hear_tags : PySem.W.nsIn K mainGlobals "hear_tags" = some (some (.ref f_hear_tags)))
    (l_hear_tags : K.lookup f_hear_tags = some ⟨oc_hear_tags, od_hear_tags, .func (PySem.W.fnOf "hear_tags" "hear_tags" (defArgs s_hear_tags) (defBody s_hear_tags) (defScope s_hear_tags) .none kV_hear_tags dc_hear_tags pm_hear_tags an_hear_tags cd_hear_tags ct_hear_tags), sl_hear_tags⟩)
    (c_hear_tags : PySem.W.codeIn K cd_hear_tags "hear_tags" = true)
    (k_hear_tags : PySem.W.keepIn K (.ref f_hear_tags) = true)
    (a_counted : PySem.W.nsIn K mainGlobals "counted" = some (some (.ref f_counted)))
    (l_counted : K.lookup f_counted = some ⟨oc_counted, od_counted, .func (PySem.W.fnOf "counted" "counted" (defArgs s_counted) (defBody s_counted) (defScope s_counted) .none kV_counted dc_counted pm_counted an_counted cd_counted ct_counted), sl_counted⟩)
    (c_counted : PySem.W.codeIn K cd_counted "counted" = true)
    (k_counted : PySem.W.keepIn K (.ref f_counted) = true)
    (a_find : PySem.W.nsIn K mainGlobals "find" = some (some (.ref f_find)))
    (l_find : K.lookup f_find = some ⟨oc_find, od_find, .func (PySem.W.fnOf "find" "find" (defArgs s_find) (defBody s_find) (defScope s_find) .none kV_find dc_find pm_find an_find cd_find ct_find), sl_find⟩)
    (c_find : PySem.W.codeIn K cd_find "find" = true)
    (k_find : PySem.W.keepIn K (.ref f_find) = true)
    (a_Form_init : PySem.W.findIn K (.ref c_Form) "__init__" = some (some (.ref f_Form_init)))
    (i_Form_init : PySem.W.isFn K (.ref f_Form_init) = true)
    (l_Form_init : K.lookup f_Form_init = some ⟨oc_Form_init, od_Form_init, .func (PySem.W.fnOf "__init__" "Form.__init__" (defArgs s_Form_init) (defBody s_Form_init) (defScope s_Form_init) .none kV_Form_init dc_Form_init pm_Form_init an_Form_init cd_Form_init ct_Form_init), sl_Form_init⟩)
    (c_Form_init : PySem.W.codeIn K cd_Form_init "Form.__init__" = true)
    (k_Form_init : PySem.W.keepIn K (.ref f_Form_init) = true)
    (a_Reading_init : PySem.W.findIn K (.ref c_Reading) "__init__" = some (some (.ref f_Reading_init)))
    (i_Reading_init : PySem.W.isFn K (.ref f_Reading_init) = true)
    (l_Reading_init : K.lookup f_Reading_init = some ⟨oc_Reading_init, od_Reading_init, .func (PySem.W.fnOf "__init__" "Reading.__init__" (defArgs s_Reading_init) (defBody s_Reading_init) (defScope s_Reading_init) .none kV_Reading_init dc_Reading_init pm_Reading_init an_Reading_init cd_Reading_init ct_Reading_init), sl_Reading_init⟩)
    (c_Reading_init : PySem.W.codeIn K cd_Reading_init "Reading.__init__" = true)
    (k_Reading_init : PySem.W.keepIn K (.ref f_Reading_init) = true)
    (a_Reading_stop_at : PySem.W.findIn K (.ref c_Reading) "stop_at" = some (some (.ref f_Reading_stop_at)))
    (i_Reading_stop_at : PySem.W.isFn K (.ref f_Reading_stop_at) = true)
    (l_Reading_stop_at : K.lookup f_Reading_stop_at = some ⟨oc_Reading_stop_at, od_Reading_stop_at, .func (PySem.W.fnOf "stop_at" "Reading.stop_at" (defArgs s_Reading_stop_at) (defBody s_Reading_stop_at) (defScope s_Reading_stop_at) .none kV_Reading_stop_at dc_Reading_stop_at pm_Reading_stop_at an_Reading_stop_at cd_Reading_stop_at ct_Reading_stop_at), sl_Reading_stop_at⟩)
    (c_Reading_stop_at : PySem.W.codeIn K cd_Reading_stop_at "Reading.stop_at" = true)
    (k_Reading_stop_at : PySem.W.keepIn K (.ref f_Reading_stop_at) = true)
    (a_Reading_end_too_soon : PySem.W.findIn K (.ref c_Reading) "end_too_soon" = some (some (.ref f_Reading_end_too_soon)))
    (i_Reading_end_too_soon : PySem.W.isFn K (.ref f_Reading_end_too_soon) = true)
    (l_Reading_end_too_soon : K.lookup f_Reading_end_too_soon = some ⟨oc_Reading_end_too_soon, od_Reading_end_too_soon, .func (PySem.W.fnOf "end_too_soon" "Reading.end_too_soon" (defArgs s_Reading_end_too_soon) (defBody s_Reading_end_too_soon) (defScope s_Reading_end_too_soon) .none kV_Reading_end_too_soon dc_Reading_end_too_soon pm_Reading_end_too_soon an_Reading_end_too_soon cd_Reading_end_too_soon ct_Reading_end_too_soon), sl_Reading_end_too_soon⟩)
    (c_Reading_end_too_soon : PySem.W.codeIn K cd_Reading_end_too_soon "Reading.end_too_soon" = true)
    (k_Reading_end_too_soon : PySem.W.keepIn K (.ref f_Reading_end_too_soon) = true)
    (a_Reading_take : PySem.W.findIn K (.ref c_Reading) "take" = some (some (.ref f_Reading_take)))
    (i_Reading_take : PySem.W.isFn K (.ref f_Reading_take) = true)
    (l_Reading_take : K.lookup f_Reading_take = some ⟨oc_Reading_take, od_Reading_take, .func (PySem.W.fnOf "take" "Reading.take" (defArgs s_Reading_take) (defBody s_Reading_take) (defScope s_Reading_take) .none kV_Reading_take dc_Reading_take pm_Reading_take an_Reading_take cd_Reading_take ct_Reading_take), sl_Reading_take⟩)
    (c_Reading_take : PySem.W.codeIn K cd_Reading_take "Reading.take" = true)
    (k_Reading_take : PySem.W.keepIn K (.ref f_Reading_take) = true)
    (a_Reading_number : PySem.W.findIn K (.ref c_Reading) "number" = some (some (.ref f_Reading_number)))
    (i_Reading_number : PySem.W.isFn K (.ref f_Reading_number) = true)
    (l_Reading_number : K.lookup f_Reading_number = some ⟨oc_Reading_number, od_Reading_number, .func (PySem.W.fnOf "number" "Reading.number" (defArgs s_Reading_number) (defBody s_Reading_number) (defScope s_Reading_number) .none kV_Reading_number dc_Reading_number pm_Reading_number an_Reading_number cd_Reading_number ct_Reading_number), sl_Reading_number⟩)
    (c_Reading_number : PySem.W.codeIn K cd_Reading_number "Reading.number" = true)
    (k_Reading_number : PySem.W.keepIn K (.ref f_Reading_number) = true)
    (a_Reading_seal : PySem.W.findIn K (.ref c_Reading) "seal" = some (some (.ref f_Reading_seal)))
    (i_Reading_seal : PySem.W.isFn K (.ref f_Reading_seal) = true)
    (l_Reading_seal : K.lookup f_Reading_seal = some ⟨oc_Reading_seal, od_Reading_seal, .func (PySem.W.fnOf "seal" "Reading.seal" (defArgs s_Reading_seal) (defBody s_Reading_seal) (defScope s_Reading_seal) .none kV_Reading_seal dc_Reading_seal pm_Reading_seal an_Reading_seal cd_Reading_seal ct_Reading_seal), sl_Reading_seal⟩)
    (c_Reading_seal : PySem.W.codeIn K cd_Reading_seal "Reading.seal" = true)
    (k_Reading_seal : PySem.W.keepIn K (.ref f_Reading_seal) = true)
    (a_Tag_init : PySem.W.findIn K (.ref c_Tag) "__init__" = some (some (.ref f_Tag_init)))
    (i_Tag_init : PySem.W.isFn K (.ref f_Tag_init) = true)
    (l_Tag_init : K.lookup f_Tag_init = some ⟨oc_Tag_init, od_Tag_init, .func (PySem.W.fnOf "__init__" "Tag.__init__" (defArgs s_Tag_init) (defBody s_Tag_init) (defScope s_Tag_init) .none kV_Tag_init dc_Tag_init pm_Tag_init an_Tag_init cd_Tag_init ct_Tag_init), sl_Tag_init⟩)
    (c_Tag_init : PySem.W.codeIn K cd_Tag_init "Tag.__init__" = true)
    (k_Tag_init : PySem.W.keepIn K (.ref f_Tag_init) = true)
    (a_Head_init : PySem.W.findIn K (.ref c_Head) "__init__" = some (some (.ref f_Head_init)))
    (i_Head_init : PySem.W.isFn K (.ref f_Head_init) = true)
    (l_Head_init : K.lookup f_Head_init = some ⟨oc_Head_init, od_Head_init, .func (PySem.W.fnOf "__init__" "Head.__init__" (defArgs s_Head_init) (defBody s_Head_init) (defScope s_Head_init) .none kV_Head_init dc_Head_init pm_Head_init an_Head_init cd_Head_init ct_Head_init), sl_Head_init⟩)
    (c_Head_init : PySem.W.codeIn K cd_Head_init "Head.__init__" = true)
    (k_Head_init : PySem.W.keepIn K (.ref f_Head_init) = true)
    (a_Hearing_init : PySem.W.findIn K (.ref c_Hearing) "__init__" = some (some (.ref f_Hearing_init)))
    (i_Hearing_init : PySem.W.isFn K (.ref f_Hearing_init) = true)
    (l_Hearing_init : K.lookup f_Hearing_init = some ⟨oc_Hearing_init, od_Hearing_init, .func (PySem.W.fnOf "__init__" "Hearing.__init__" (defArgs s_Hearing_init) (defBody s_Hearing_init) (defScope s_Hearing_init) .none kV_Hearing_init dc_Hearing_init pm_Hearing_init an_Hearing_init cd_Hearing_init ct_Hearing_init), sl_Hearing_init⟩)
    (c_Hearing_init : PySem.W.codeIn K cd_Hearing_init "Hearing.__init__" = true)
    (k_Hearing_init : PySem.W.keepIn K (.ref f_Hearing_init) = true)
    (pg_Form : PySem.W.plainGet K c_Form Str.empty = true)
    (hd_Form : PySem.W.hasDictIn K c_Form = true)
    (po_Form : PySem.W.plainOver K c_Form = true)
    (sa_Form : PySem.W.findIn K (.ref c_Form) "__setattr__" = some (some (.builtin "object.__setattr__")))
    (mk_Form : PySem.W.makesIn K c_Form = true)
    (kc_Form : PySem.W.keepIn K (.ref c_Form) = true)
    (n_Form_channels : PySem.W.findIn K (.ref c_Form) "channels" = some none)
    (n_Form_depth : PySem.W.findIn K (.ref c_Form) "depth" = some none)
    (n_Form_block : PySem.W.findIn K (.ref c_Form) "block" = some none)
    (n_Form_order : PySem.W.findIn K (.ref c_Form) "order" = some none)
    (n_Form_group : PySem.W.findIn K (.ref c_Form) "group" = some none)
    (n_Form_spare : PySem.W.findIn K (.ref c_Form) "spare" = some none)
    (pg_Reading : PySem.W.plainGet K c_Reading Str.empty = true)
    (hd_Reading : PySem.W.hasDictIn K c_Reading = true)
    (po_Reading : PySem.W.plainOver K c_Reading = true)
    (sa_Reading : PySem.W.findIn K (.ref c_Reading) "__setattr__" = some (some (.builtin "object.__setattr__")))
    (mk_Reading : PySem.W.makesIn K c_Reading = true)
    (kc_Reading : PySem.W.keepIn K (.ref c_Reading) = true)
    (n_Reading_data : PySem.W.findIn K (.ref c_Reading) "data" = some none)
    (n_Reading_place : PySem.W.findIn K (.ref c_Reading) "place" = some none)
    (n_Reading_fault : PySem.W.findIn K (.ref c_Reading) "fault" = some none)
    (n_Reading_fault_place : PySem.W.findIn K (.ref c_Reading) "fault_place" = some none)
    (pg_Tag : PySem.W.plainGet K c_Tag Str.empty = true)
    (hd_Tag : PySem.W.hasDictIn K c_Tag = true)
    (po_Tag : PySem.W.plainOver K c_Tag = true)
    (sa_Tag : PySem.W.findIn K (.ref c_Tag) "__setattr__" = some (some (.builtin "object.__setattr__")))
    (mk_Tag : PySem.W.makesIn K c_Tag = true)
    (kc_Tag : PySem.W.keepIn K (.ref c_Tag) = true)
    (n_Tag_key : PySem.W.findIn K (.ref c_Tag) "key" = some none)
    (n_Tag_value : PySem.W.findIn K (.ref c_Tag) "value" = some none)
    (pg_Head : PySem.W.plainGet K c_Head Str.empty = true)
    (hd_Head : PySem.W.hasDictIn K c_Head = true)
    (po_Head : PySem.W.plainOver K c_Head = true)
    (sa_Head : PySem.W.findIn K (.ref c_Head) "__setattr__" = some (some (.builtin "object.__setattr__")))
    (mk_Head : PySem.W.makesIn K c_Head = true)
    (kc_Head : PySem.W.keepIn K (.ref c_Head) = true)
    (n_Head_form : PySem.W.findIn K (.ref c_Head) "form" = some none)
    (n_Head_samples : PySem.W.findIn K (.ref c_Head) "samples" = some none)
    (n_Head_tags_size : PySem.W.findIn K (.ref c_Head) "tags_size" = some none)
    (pg_Hearing : PySem.W.plainGet K c_Hearing Str.empty = true)
    (hd_Hearing : PySem.W.hasDictIn K c_Hearing = true)
    (po_Hearing : PySem.W.plainOver K c_Hearing = true)
    (sa_Hearing : PySem.W.findIn K (.ref c_Hearing) "__setattr__" = some (some (.builtin "object.__setattr__")))
    (mk_Hearing : PySem.W.makesIn K c_Hearing = true)
    (kc_Hearing : PySem.W.keepIn K (.ref c_Hearing) = true)
    (n_Hearing_reading : PySem.W.findIn K (.ref c_Hearing) "reading" = some none)
    (n_Hearing_head : PySem.W.findIn K (.ref c_Hearing) "head" = some none)
    (n_Hearing_tags : PySem.W.findIn K (.ref c_Hearing) "tags" = some none)
    (n_Hearing_starts : PySem.W.findIn K (.ref c_Hearing) "starts" = some none)
    (n_Hearing_index_bytes : PySem.W.findIn K (.ref c_Hearing) "index_bytes" = some none)
    (n_Hearing_frames_taken : PySem.W.findIn K (.ref c_Hearing) "frames_taken" = some none)
    (n_Hearing_numbers : PySem.W.findIn K (.ref c_Hearing) "numbers" = some none)
    (x_Faulty : PySem.W.excIn K c_Faulty EXB "Exception.__new__" = true)
    (y_Faulty : baseIn K c_Faulty = true)
    (g_MOST_NUMBERS : PySem.W.nsIn K mainGlobals "MOST_NUMBERS" = some (some (.int 2048 t_MOST_NUMBERS)))
    (g_CRC32_SIZE : PySem.W.nsIn K mainGlobals "CRC32_SIZE" = some (some (.int 4 t_CRC32_SIZE)))
    (g_ENDS_TOO_SOON : PySem.W.nsIn K mainGlobals "ENDS_TOO_SOON" = some (some (.int 1 t_ENDS_TOO_SOON)))
    (g_BAD_TAGS : PySem.W.nsIn K mainGlobals "BAD_TAGS" = some (some (.int 5 t_BAD_TAGS)))
    (g_BAD_TAGS_CHECK : PySem.W.nsIn K mainGlobals "BAD_TAGS_CHECK" = some (some (.int 6 t_BAD_TAGS_CHECK)))
    (g_MOST_TAGS : PySem.W.nsIn K mainGlobals "MOST_TAGS" = some (some (.int 16 t_MOST_TAGS)))
    (g_LONGEST_KEY : PySem.W.nsIn K mainGlobals "LONGEST_KEY" = some (some (.int 32 t_LONGEST_KEY)))
    (g_COUNT_SIZE : PySem.W.nsIn K mainGlobals "COUNT_SIZE" = some (some (.int 2 t_COUNT_SIZE)))
    (g_VALUE_LENGTH_SIZE : PySem.W.nsIn K mainGlobals "VALUE_LENGTH_SIZE" = some (some (.int 2 t_VALUE_LENGTH_SIZE)))
    (g_LEAST_TAGS_SIZE : PySem.W.nsIn K mainGlobals "LEAST_TAGS_SIZE" = some (some (.int 6 t_LEAST_TAGS_SIZE)))
    (g_MOST_TAGS_SIZE : PySem.W.nsIn K mainGlobals "MOST_TAGS_SIZE" = some (some (.int 1024 t_MOST_TAGS_SIZE)))
    (g_EQUALS_SIGN : PySem.W.nsIn K mainGlobals "EQUALS_SIGN" = some (some (.int 61 t_EQUALS_SIGN)))
    (g_ORDER : PySem.W.nsIn K mainGlobals "ORDER" = some (some (.int 4 t_ORDER)))
    (g_BAD_MARK : PySem.W.nsIn K mainGlobals "BAD_MARK" = some (some (.int 2 t_BAD_MARK)))
    (g_BAD_SHAPE : PySem.W.nsIn K mainGlobals "BAD_SHAPE" = some (some (.int 3 t_BAD_SHAPE)))
    (g_BAD_HEAD_CHECK : PySem.W.nsIn K mainGlobals "BAD_HEAD_CHECK" = some (some (.int 4 t_BAD_HEAD_CHECK)))
    (g_RANGES : PySem.W.nsIn K mainGlobals "RANGES" = some (some (.ref a_RANGES)))
    (t_RANGES : K.lookup a_RANGES = some ⟨.type "tuple", dT_RANGES, .seq #[.ref a_RANGES_0, .ref a_RANGES_1, .ref a_RANGES_2, .ref a_RANGES_3, .ref a_RANGES_4, .ref a_RANGES_5] nT_RANGES, sT_RANGES⟩)
    (t_RANGES_0 : K.lookup a_RANGES_0 = some ⟨.type "tuple", dT_RANGES_0, .seq #[.int (1) tk_RANGES_0_0, .int (4) tk_RANGES_0_1] nT_RANGES_0, sT_RANGES_0⟩)
    (t_RANGES_1 : K.lookup a_RANGES_1 = some ⟨.type "tuple", dT_RANGES_1, .seq #[.int (4) tk_RANGES_1_0, .int (24) tk_RANGES_1_1] nT_RANGES_1, sT_RANGES_1⟩)
    (t_RANGES_2 : K.lookup a_RANGES_2 = some ⟨.type "tuple", dT_RANGES_2, .seq #[.int (16) tk_RANGES_2_0, .int (256) tk_RANGES_2_1] nT_RANGES_2, sT_RANGES_2⟩)
    (t_RANGES_3 : K.lookup a_RANGES_3 = some ⟨.type "tuple", dT_RANGES_3, .seq #[.int (0) tk_RANGES_3_0, .int (4) tk_RANGES_3_1] nT_RANGES_3, sT_RANGES_3⟩)
    (t_RANGES_4 : K.lookup a_RANGES_4 = some ⟨.type "tuple", dT_RANGES_4, .seq #[.int (1) tk_RANGES_4_0, .int (8) tk_RANGES_4_1] nT_RANGES_4, sT_RANGES_4⟩)
    (t_RANGES_5 : K.lookup a_RANGES_5 = some ⟨.type "tuple", dT_RANGES_5, .seq #[.int (0) tk_RANGES_5_0, .int (4) tk_RANGES_5_1] nT_RANGES_5, sT_RANGES_5⟩)
    (g_CRC32_STEPS : PySem.W.nsIn K mainGlobals "CRC32_STEPS" = some (some (.ref a_CRC32_STEPS)))
    (t_CRC32_STEPS : K.lookup a_CRC32_STEPS = some ⟨.type "tuple", dT_CRC32_STEPS, .seq #[.int (0) tk_CRC32_STEPS_0, .int (498536548) tk_CRC32_STEPS_1, .int (997073096) tk_CRC32_STEPS_2, .int (651767980) tk_CRC32_STEPS_3, .int (1994146192) tk_CRC32_STEPS_4, .int (1802195444) tk_CRC32_STEPS_5, .int (1303535960) tk_CRC32_STEPS_6, .int (1342533948) tk_CRC32_STEPS_7, .int (3988292384) tk_CRC32_STEPS_8, .int (4027552580) tk_CRC32_STEPS_9, .int (3604390888) tk_CRC32_STEPS_10, .int (3412177804) tk_CRC32_STEPS_11, .int (2607071920) tk_CRC32_STEPS_12, .int (2262029012) tk_CRC32_STEPS_13, .int (2685067896) tk_CRC32_STEPS_14, .int (3183342108) tk_CRC32_STEPS_15] nT_CRC32_STEPS, sT_CRC32_STEPS⟩)
    (g_MARK_heads : PySem.W.nsIn K mainGlobals "MARK" = some (some (.ref a_MARK_heads)))
    (t_MARK_heads : K.lookup a_MARK_heads = some ⟨.type "tuple", dT_MARK_heads, .seq #[.int (83) tk_MARK_heads_0, .int (75) tk_MARK_heads_1, .int (69) tk_MARK_heads_2, .int (69) tk_MARK_heads_3, .int (80) tk_MARK_heads_4, .int (1) tk_MARK_heads_5, .int (13) tk_MARK_heads_6, .int (10) tk_MARK_heads_7] nT_MARK_heads, sT_MARK_heads⟩)
    (z_all : PySem.W.nsIn K mainGlobals "all" = some none)
    (z_any : PySem.W.nsIn K mainGlobals "any" = some none)
    (z_enumerate : PySem.W.nsIn K mainGlobals "enumerate" = some none)
    (z_len : PySem.W.nsIn K mainGlobals "len" = some none)
    (z_list : PySem.W.nsIn K mainGlobals "list" = some none)
    (z_range : PySem.W.nsIn K mainGlobals "range" = some none)
    (z_zip : PySem.W.nsIn K mainGlobals "zip" = some none)
    : ∃ A : Adr, Txt K mg A := by
  have F_is_form := fun_mk (st := s_is_form) l_is_form c_is_form k_is_form
  have F_from_octets := fun_mk (st := s_from_octets) l_from_octets c_from_octets k_from_octets
  have F_crc32 := fun_mk (st := s_crc32) l_crc32 c_crc32 k_crc32
  have F_can_be_key := fun_mk (st := s_can_be_key) l_can_be_key c_can_be_key k_can_be_key
  have F_read_tag := fun_mk (st := s_read_tag) l_read_tag c_read_tag k_read_tag
  have F_read_tags := fun_mk (st := s_read_tags) l_read_tags c_read_tags k_read_tags
  have F_read_head := fun_mk (st := s_read_head) l_read_head c_read_head k_read_head
  have F_head_told := fun_mk (st := s_head_told) l_head_told c_head_told k_head_told
  have F_hear_beginning := fun_mk (st := s_hear_beginning) l_hear_beginning c_hear_beginning k_hear_beginning
  have F_heard := fun_mk (st := s_heard) l_heard c_heard k_heard
  have F_hear_head := fun_mk (st := s_hear_head) l_hear_head c_hear_head k_hear_head
  have F_hear_tags := fun_mk (st := s_hear_tags) l_hear_tags c_hear_tags k_hear_tags
  have F_counted := fun_mk (st := s_counted) l_counted c_counted k_counted
  have F_find := fun_mk (st := s_find) l_find c_find k_find
  have F_Form_init := fun_mk (st := s_Form_init) l_Form_init c_Form_init k_Form_init
  have F_Reading_init := fun_mk (st := s_Reading_init) l_Reading_init c_Reading_init k_Reading_init
  have F_Reading_stop_at := fun_mk (st := s_Reading_stop_at) l_Reading_stop_at c_Reading_stop_at k_Reading_stop_at
  have F_Reading_end_too_soon := fun_mk (st := s_Reading_end_too_soon) l_Reading_end_too_soon c_Reading_end_too_soon k_Reading_end_too_soon
  have F_Reading_take := fun_mk (st := s_Reading_take) l_Reading_take c_Reading_take k_Reading_take
  have F_Reading_number := fun_mk (st := s_Reading_number) l_Reading_number c_Reading_number k_Reading_number
  have F_Reading_seal := fun_mk (st := s_Reading_seal) l_Reading_seal c_Reading_seal k_Reading_seal
  have F_Tag_init := fun_mk (st := s_Tag_init) l_Tag_init c_Tag_init k_Tag_init
  have F_Head_init := fun_mk (st := s_Head_init) l_Head_init c_Head_init k_Head_init
  have F_Hearing_init := fun_mk (st := s_Hearing_init) l_Hearing_init c_Hearing_init k_Hearing_init
  refine ⟨⟨f_is_form, PySem.W.fnOf "is_form" "is_form" (defArgs s_is_form) (defBody s_is_form) (defScope s_is_form) .none kV_is_form dc_is_form pm_is_form an_is_form cd_is_form ct_is_form, f_from_octets, PySem.W.fnOf "from_octets" "from_octets" (defArgs s_from_octets) (defBody s_from_octets) (defScope s_from_octets) .none kV_from_octets dc_from_octets pm_from_octets an_from_octets cd_from_octets ct_from_octets, f_crc32, PySem.W.fnOf "crc32" "crc32" (defArgs s_crc32) (defBody s_crc32) (defScope s_crc32) .none kV_crc32 dc_crc32 pm_crc32 an_crc32 cd_crc32 ct_crc32, f_can_be_key, PySem.W.fnOf "can_be_key" "can_be_key" (defArgs s_can_be_key) (defBody s_can_be_key) (defScope s_can_be_key) .none kV_can_be_key dc_can_be_key pm_can_be_key an_can_be_key cd_can_be_key ct_can_be_key, f_read_tag, PySem.W.fnOf "read_tag" "read_tag" (defArgs s_read_tag) (defBody s_read_tag) (defScope s_read_tag) .none kV_read_tag dc_read_tag pm_read_tag an_read_tag cd_read_tag ct_read_tag, f_read_tags, PySem.W.fnOf "read_tags" "read_tags" (defArgs s_read_tags) (defBody s_read_tags) (defScope s_read_tags) .none kV_read_tags dc_read_tags pm_read_tags an_read_tags cd_read_tags ct_read_tags, f_read_head, PySem.W.fnOf "read_head" "read_head" (defArgs s_read_head) (defBody s_read_head) (defScope s_read_head) .none kV_read_head dc_read_head pm_read_head an_read_head cd_read_head ct_read_head, f_head_told, PySem.W.fnOf "head_told" "head_told" (defArgs s_head_told) (defBody s_head_told) (defScope s_head_told) .none kV_head_told dc_head_told pm_head_told an_head_told cd_head_told ct_head_told, f_hear_beginning, PySem.W.fnOf "hear_beginning" "hear_beginning" (defArgs s_hear_beginning) (defBody s_hear_beginning) (defScope s_hear_beginning) .none kV_hear_beginning dc_hear_beginning pm_hear_beginning an_hear_beginning cd_hear_beginning ct_hear_beginning, f_heard, PySem.W.fnOf "heard" "heard" (defArgs s_heard) (defBody s_heard) (defScope s_heard) .none kV_heard dc_heard pm_heard an_heard cd_heard ct_heard, f_hear_head, PySem.W.fnOf "hear_head" "hear_head" (defArgs s_hear_head) (defBody s_hear_head) (defScope s_hear_head) .none kV_hear_head dc_hear_head pm_hear_head an_hear_head cd_hear_head ct_hear_head, f_hear_tags, PySem.W.fnOf "hear_tags" "hear_tags" (defArgs s_hear_tags) (defBody s_hear_tags) (defScope s_hear_tags) .none kV_hear_tags dc_hear_tags pm_hear_tags an_hear_tags cd_hear_tags ct_hear_tags, f_counted, PySem.W.fnOf "counted" "counted" (defArgs s_counted) (defBody s_counted) (defScope s_counted) .none kV_counted dc_counted pm_counted an_counted cd_counted ct_counted, f_find, PySem.W.fnOf "find" "find" (defArgs s_find) (defBody s_find) (defScope s_find) .none kV_find dc_find pm_find an_find cd_find ct_find, f_Form_init, PySem.W.fnOf "__init__" "Form.__init__" (defArgs s_Form_init) (defBody s_Form_init) (defScope s_Form_init) .none kV_Form_init dc_Form_init pm_Form_init an_Form_init cd_Form_init ct_Form_init, f_Reading_init, PySem.W.fnOf "__init__" "Reading.__init__" (defArgs s_Reading_init) (defBody s_Reading_init) (defScope s_Reading_init) .none kV_Reading_init dc_Reading_init pm_Reading_init an_Reading_init cd_Reading_init ct_Reading_init, f_Reading_stop_at, PySem.W.fnOf "stop_at" "Reading.stop_at" (defArgs s_Reading_stop_at) (defBody s_Reading_stop_at) (defScope s_Reading_stop_at) .none kV_Reading_stop_at dc_Reading_stop_at pm_Reading_stop_at an_Reading_stop_at cd_Reading_stop_at ct_Reading_stop_at, f_Reading_end_too_soon, PySem.W.fnOf "end_too_soon" "Reading.end_too_soon" (defArgs s_Reading_end_too_soon) (defBody s_Reading_end_too_soon) (defScope s_Reading_end_too_soon) .none kV_Reading_end_too_soon dc_Reading_end_too_soon pm_Reading_end_too_soon an_Reading_end_too_soon cd_Reading_end_too_soon ct_Reading_end_too_soon, f_Reading_take, PySem.W.fnOf "take" "Reading.take" (defArgs s_Reading_take) (defBody s_Reading_take) (defScope s_Reading_take) .none kV_Reading_take dc_Reading_take pm_Reading_take an_Reading_take cd_Reading_take ct_Reading_take, f_Reading_number, PySem.W.fnOf "number" "Reading.number" (defArgs s_Reading_number) (defBody s_Reading_number) (defScope s_Reading_number) .none kV_Reading_number dc_Reading_number pm_Reading_number an_Reading_number cd_Reading_number ct_Reading_number, f_Reading_seal, PySem.W.fnOf "seal" "Reading.seal" (defArgs s_Reading_seal) (defBody s_Reading_seal) (defScope s_Reading_seal) .none kV_Reading_seal dc_Reading_seal pm_Reading_seal an_Reading_seal cd_Reading_seal ct_Reading_seal, f_Tag_init, PySem.W.fnOf "__init__" "Tag.__init__" (defArgs s_Tag_init) (defBody s_Tag_init) (defScope s_Tag_init) .none kV_Tag_init dc_Tag_init pm_Tag_init an_Tag_init cd_Tag_init ct_Tag_init, f_Head_init, PySem.W.fnOf "__init__" "Head.__init__" (defArgs s_Head_init) (defBody s_Head_init) (defScope s_Head_init) .none kV_Head_init dc_Head_init pm_Head_init an_Head_init cd_Head_init ct_Head_init, f_Hearing_init, PySem.W.fnOf "__init__" "Hearing.__init__" (defArgs s_Hearing_init) (defBody s_Hearing_init) (defScope s_Hearing_init) .none kV_Hearing_init dc_Hearing_init pm_Hearing_init an_Hearing_init cd_Hearing_init ct_Hearing_init, c_Form, c_Reading, c_Tag, c_Head, c_Hearing, c_Faulty, t_MOST_NUMBERS, t_CRC32_SIZE, t_ENDS_TOO_SOON, t_BAD_TAGS, t_BAD_TAGS_CHECK, t_MOST_TAGS, t_LONGEST_KEY, t_COUNT_SIZE, t_VALUE_LENGTH_SIZE, t_LEAST_TAGS_SIZE, t_MOST_TAGS_SIZE, t_EQUALS_SIGN, t_ORDER, t_BAD_MARK, t_BAD_SHAPE, t_BAD_HEAD_CHECK, a_CRC32_STEPS, a_MARK_heads, a_RANGES, a_RANGES_0, a_RANGES_1, a_RANGES_2, a_RANGES_3, a_RANGES_4, a_RANGES_5⟩, ?_⟩
  exact {
    F_is_form := F_is_form,
    b_is_form := F_is_form.binds (ps := ["form"]) fun _ _ _ _ _ _ us hl => match us, hl with | [_], _ => rfl,
    m_is_form := PySem.W.mg_of X G a_is_form,
    F_from_octets := F_from_octets,
    b_from_octets := F_from_octets.binds (ps := ["data"]) fun _ _ _ _ _ _ us hl => match us, hl with | [_], _ => rfl,
    m_from_octets := PySem.W.mg_of X G a_from_octets,
    F_crc32 := F_crc32,
    b_crc32 := F_crc32.binds (ps := ["data"]) fun _ _ _ _ _ _ us hl => match us, hl with | [_], _ => rfl,
    m_crc32 := PySem.W.mg_of X G a_crc32,
    F_can_be_key := F_can_be_key,
    b_can_be_key := F_can_be_key.binds (ps := ["key"]) fun _ _ _ _ _ _ us hl => match us, hl with | [_], _ => rfl,
    m_can_be_key := PySem.W.mg_of X G a_can_be_key,
    F_read_tag := F_read_tag,
    b_read_tag := F_read_tag.binds (ps := ["reading", "end", "tags"]) fun _ _ _ _ _ _ us hl => match us, hl with | [_, _, _], _ => rfl,
    m_read_tag := PySem.W.mg_of X G a_read_tag,
    F_read_tags := F_read_tags,
    b_read_tags := F_read_tags.binds (ps := ["reading", "size", "tags"]) fun _ _ _ _ _ _ us hl => match us, hl with | [_, _, _], _ => rfl,
    m_read_tags := PySem.W.mg_of X G a_read_tags,
    F_read_head := F_read_head,
    b_read_head := F_read_head.binds (ps := ["reading"]) fun _ _ _ _ _ _ us hl => match us, hl with | [_], _ => rfl,
    m_read_head := PySem.W.mg_of X G a_read_head,
    F_head_told := F_head_told,
    b_head_told := F_head_told.binds (ps := ["data"]) fun _ _ _ _ _ _ us hl => match us, hl with | [_], _ => rfl,
    m_head_told := PySem.W.mg_of X G a_head_told,
    F_hear_beginning := F_hear_beginning,
    b_hear_beginning := F_hear_beginning.binds (ps := ["data"]) fun _ _ _ _ _ _ us hl => match us, hl with | [_], _ => rfl,
    m_hear_beginning := PySem.W.mg_of X G a_hear_beginning,
    F_heard := F_heard,
    b_heard := F_heard.binds (ps := ["data", "stages"]) fun _ _ _ _ _ _ us hl => match us, hl with | [_, _], _ => rfl,
    m_heard := PySem.W.mg_of X G a_heard,
    F_hear_head := F_hear_head,
    b_hear_head := F_hear_head.binds (ps := ["hearing"]) fun _ _ _ _ _ _ us hl => match us, hl with | [_], _ => rfl,
    m_hear_head := PySem.W.mg_of X G a_hear_head,
    F_hear_tags := F_hear_tags,
    b_hear_tags := F_hear_tags.binds (ps := ["hearing"]) fun _ _ _ _ _ _ us hl => match us, hl with | [_], _ => rfl,
    m_hear_tags := PySem.W.mg_of X G a_hear_tags,
    F_counted := F_counted,
    b_counted := F_counted.binds (ps := ["data"]) fun _ _ _ _ _ _ us hl => match us, hl with | [_], _ => rfl,
    m_counted := PySem.W.mg_of X G a_counted,
    F_find := F_find,
    b_find := F_find.binds (ps := ["file", "key"]) fun _ _ _ _ _ _ us hl => match us, hl with | [_, _], _ => rfl,
    m_find := PySem.W.mg_of X G a_find,
    F_Form_init := F_Form_init,
    b_Form_init := F_Form_init.binds (ps := ["self", "form"]) fun _ _ _ _ _ _ us hl => match us, hl with | [_, _], _ => rfl,
    F_Reading_init := F_Reading_init,
    b_Reading_init := F_Reading_init.binds (ps := ["self", "data"]) fun _ _ _ _ _ _ us hl => match us, hl with | [_, _], _ => rfl,
    F_Reading_stop_at := F_Reading_stop_at,
    b_Reading_stop_at := F_Reading_stop_at.binds (ps := ["self", "fault", "place"]) fun _ _ _ _ _ _ us hl => match us, hl with | [_, _, _], _ => rfl,
    e_Reading_stop_at := ⟨a_Reading_stop_at, i_Reading_stop_at, k_Reading_stop_at⟩,
    F_Reading_end_too_soon := F_Reading_end_too_soon,
    b_Reading_end_too_soon := F_Reading_end_too_soon.binds (ps := ["self"]) fun _ _ _ _ _ _ us hl => match us, hl with | [_], _ => rfl,
    e_Reading_end_too_soon := ⟨a_Reading_end_too_soon, i_Reading_end_too_soon, k_Reading_end_too_soon⟩,
    F_Reading_take := F_Reading_take,
    b_Reading_take := F_Reading_take.binds (ps := ["self", "count"]) fun _ _ _ _ _ _ us hl => match us, hl with | [_, _], _ => rfl,
    e_Reading_take := ⟨a_Reading_take, i_Reading_take, k_Reading_take⟩,
    F_Reading_number := F_Reading_number,
    b_Reading_number := F_Reading_number.binds (ps := ["self", "count"]) fun _ _ _ _ _ _ us hl => match us, hl with | [_, _], _ => rfl,
    e_Reading_number := ⟨a_Reading_number, i_Reading_number, k_Reading_number⟩,
    F_Reading_seal := F_Reading_seal,
    b_Reading_seal := F_Reading_seal.binds (ps := ["self", "begin", "fault"]) fun _ _ _ _ _ _ us hl => match us, hl with | [_, _, _], _ => rfl,
    e_Reading_seal := ⟨a_Reading_seal, i_Reading_seal, k_Reading_seal⟩,
    F_Tag_init := F_Tag_init,
    b_Tag_init := F_Tag_init.binds (ps := ["self", "key", "value"]) fun _ _ _ _ _ _ us hl => match us, hl with | [_, _, _], _ => rfl,
    F_Head_init := F_Head_init,
    b_Head_init := F_Head_init.binds (ps := ["self", "form", "samples", "tags_size"]) fun _ _ _ _ _ _ us hl => match us, hl with | [_, _, _, _], _ => rfl,
    F_Hearing_init := F_Hearing_init,
    b_Hearing_init := F_Hearing_init.binds (ps := ["self", "data"]) fun _ _ _ _ _ _ us hl => match us, hl with | [_, _], _ => rfl,
    l_Form := ⟨pg_Form, hd_Form, po_Form, sa_Form⟩,
    m_Form := PySem.W.mg_of X G a_Form,
    k_Form := ⟨mk_Form, a_Form_init, i_Form_init, kc_Form⟩,
    n_Form_channels := n_Form_channels,
    n_Form_depth := n_Form_depth,
    n_Form_block := n_Form_block,
    n_Form_order := n_Form_order,
    n_Form_group := n_Form_group,
    n_Form_spare := n_Form_spare,
    l_Reading := ⟨pg_Reading, hd_Reading, po_Reading, sa_Reading⟩,
    m_Reading := PySem.W.mg_of X G a_Reading,
    k_Reading := ⟨mk_Reading, a_Reading_init, i_Reading_init, kc_Reading⟩,
    n_Reading_data := n_Reading_data,
    n_Reading_place := n_Reading_place,
    n_Reading_fault := n_Reading_fault,
    n_Reading_fault_place := n_Reading_fault_place,
    l_Tag := ⟨pg_Tag, hd_Tag, po_Tag, sa_Tag⟩,
    m_Tag := PySem.W.mg_of X G a_Tag,
    k_Tag := ⟨mk_Tag, a_Tag_init, i_Tag_init, kc_Tag⟩,
    n_Tag_key := n_Tag_key,
    n_Tag_value := n_Tag_value,
    l_Head := ⟨pg_Head, hd_Head, po_Head, sa_Head⟩,
    m_Head := PySem.W.mg_of X G a_Head,
    k_Head := ⟨mk_Head, a_Head_init, i_Head_init, kc_Head⟩,
    n_Head_form := n_Head_form,
    n_Head_samples := n_Head_samples,
    n_Head_tags_size := n_Head_tags_size,
    l_Hearing := ⟨pg_Hearing, hd_Hearing, po_Hearing, sa_Hearing⟩,
    m_Hearing := PySem.W.mg_of X G a_Hearing,
    k_Hearing := ⟨mk_Hearing, a_Hearing_init, i_Hearing_init, kc_Hearing⟩,
    n_Hearing_reading := n_Hearing_reading,
    n_Hearing_head := n_Hearing_head,
    n_Hearing_tags := n_Hearing_tags,
    n_Hearing_starts := n_Hearing_starts,
    n_Hearing_index_bytes := n_Hearing_index_bytes,
    n_Hearing_frames_taken := n_Hearing_frames_taken,
    n_Hearing_numbers := n_Hearing_numbers,
    m_Faulty := PySem.W.mg_of X G a_Faulty,
    x_Faulty := ⟨x_Faulty, y_Faulty⟩,
    g_MOST_NUMBERS := PySem.W.mg_of X G g_MOST_NUMBERS,
    g_CRC32_SIZE := PySem.W.mg_of X G g_CRC32_SIZE,
    g_ENDS_TOO_SOON := PySem.W.mg_of X G g_ENDS_TOO_SOON,
    g_BAD_TAGS := PySem.W.mg_of X G g_BAD_TAGS,
    g_BAD_TAGS_CHECK := PySem.W.mg_of X G g_BAD_TAGS_CHECK,
    g_MOST_TAGS := PySem.W.mg_of X G g_MOST_TAGS,
    g_LONGEST_KEY := PySem.W.mg_of X G g_LONGEST_KEY,
    g_COUNT_SIZE := PySem.W.mg_of X G g_COUNT_SIZE,
    g_VALUE_LENGTH_SIZE := PySem.W.mg_of X G g_VALUE_LENGTH_SIZE,
    g_LEAST_TAGS_SIZE := PySem.W.mg_of X G g_LEAST_TAGS_SIZE,
    g_MOST_TAGS_SIZE := PySem.W.mg_of X G g_MOST_TAGS_SIZE,
    g_EQUALS_SIGN := PySem.W.mg_of X G g_EQUALS_SIGN,
    g_ORDER := PySem.W.mg_of X G g_ORDER,
    g_BAD_MARK := PySem.W.mg_of X G g_BAD_MARK,
    g_BAD_SHAPE := PySem.W.mg_of X G g_BAD_SHAPE,
    g_BAD_HEAD_CHECK := PySem.W.mg_of X G g_BAD_HEAD_CHECK,
    g_RANGES := PySem.W.mg_of X G g_RANGES,
    q_RANGES := fun H => .inr ⟨_, _, _, t_RANGES, rfl, rfl, (by show 6 ≤ sizeLine; decide), .cons rfl (.cons rfl (.cons rfl (.cons rfl (.cons rfl (.cons rfl (.nil))))))⟩,
    q_RANGES_0 := fun H => .inr ⟨_, _, _, t_RANGES_0, rfl, rfl, (by show 2 ≤ sizeLine; decide), .cons ⟨_, rfl⟩ (.cons ⟨_, rfl⟩ (.nil))⟩,
    q_RANGES_1 := fun H => .inr ⟨_, _, _, t_RANGES_1, rfl, rfl, (by show 2 ≤ sizeLine; decide), .cons ⟨_, rfl⟩ (.cons ⟨_, rfl⟩ (.nil))⟩,
    q_RANGES_2 := fun H => .inr ⟨_, _, _, t_RANGES_2, rfl, rfl, (by show 2 ≤ sizeLine; decide), .cons ⟨_, rfl⟩ (.cons ⟨_, rfl⟩ (.nil))⟩,
    q_RANGES_3 := fun H => .inr ⟨_, _, _, t_RANGES_3, rfl, rfl, (by show 2 ≤ sizeLine; decide), .cons ⟨_, rfl⟩ (.cons ⟨_, rfl⟩ (.nil))⟩,
    q_RANGES_4 := fun H => .inr ⟨_, _, _, t_RANGES_4, rfl, rfl, (by show 2 ≤ sizeLine; decide), .cons ⟨_, rfl⟩ (.cons ⟨_, rfl⟩ (.nil))⟩,
    q_RANGES_5 := fun H => .inr ⟨_, _, _, t_RANGES_5, rfl, rfl, (by show 2 ≤ sizeLine; decide), .cons ⟨_, rfl⟩ (.cons ⟨_, rfl⟩ (.nil))⟩,
    g_CRC32_STEPS := PySem.W.mg_of X G g_CRC32_STEPS,
    q_CRC32_STEPS := fun H => .inr ⟨_, _, _, t_CRC32_STEPS, rfl, rfl, (by show 16 ≤ sizeLine; decide), .cons ⟨_, rfl⟩ (.cons ⟨_, rfl⟩ (.cons ⟨_, rfl⟩ (.cons ⟨_, rfl⟩ (.cons ⟨_, rfl⟩ (.cons ⟨_, rfl⟩ (.cons ⟨_, rfl⟩ (.cons ⟨_, rfl⟩ (.cons ⟨_, rfl⟩ (.cons ⟨_, rfl⟩ (.cons ⟨_, rfl⟩ (.cons ⟨_, rfl⟩ (.cons ⟨_, rfl⟩ (.cons ⟨_, rfl⟩ (.cons ⟨_, rfl⟩ (.cons ⟨_, rfl⟩ (.nil))))))))))))))))⟩,
    g_MARK_heads := PySem.W.mg_of X G g_MARK_heads,
    q_MARK_heads := fun H => .inr ⟨_, _, _, t_MARK_heads, rfl, rfl, (by show 8 ≤ sizeLine; decide), .cons ⟨_, rfl⟩ (.cons ⟨_, rfl⟩ (.cons ⟨_, rfl⟩ (.cons ⟨_, rfl⟩ (.cons ⟨_, rfl⟩ (.cons ⟨_, rfl⟩ (.cons ⟨_, rfl⟩ (.cons ⟨_, rfl⟩ (.nil))))))))⟩,
    z_all := PySem.W.mg_none_of X G z_all,
    z_any := PySem.W.mg_none_of X G z_any,
    z_enumerate := PySem.W.mg_none_of X G z_enumerate,
    z_len := PySem.W.mg_none_of X G z_len,
    z_list := PySem.W.mg_none_of X G z_list,
    z_range := PySem.W.mg_none_of X G z_range,
    z_zip := PySem.W.mg_none_of X G z_zip,
    entry := fun s us hu => match us, hu with | [_, _], _ => .of_eq rfl
  }
end Wg
namespace Wg
open PySem PySem.Spec PyProof.Rows L2
def hide (D : Addr) (H : Hp) : Hp := fun b => if b = D then none else H b
theorem hide_ne {D b : Addr} {H : Hp} (h : b ≠ D) : hide D H b = H b := by unfold hide; rw [if_neg h]
theorem hide_some {D b : Addr} {H : Hp} {o : HO} (h : hide D H b = some o) : H b = some o ∧ b ≠ D := by
  unfold hide at h
  by_cases e : b = D
  · rw [if_pos e] at h; cases h
  · rw [if_neg e] at h; exact ⟨h, e⟩
theorem hide_same (D : Addr) (H : Hp) : Same (hide D H) H := fun b o h => (hide_some h).1
theorem hide_mono {D : Addr} {H H' : Hp} (s : Same H H') : Same (hide D H) (hide D H') := fun b o h => by
  obtain ⟨h1, h2⟩ := hide_some h
  rw [hide_ne h2]; exact s b o h1
theorem hide_upd (D : Addr) (H : Hp) (o : HO) : hide D (upd H D o) = hide D H := by
  funext b
  unfold hide
  by_cases e : b = D
  · rw [if_pos e, if_pos e]
  · rw [if_neg e, if_neg e, upd_ne e]
theorem same_new {H : Hp} {p : Addr} {o : HO} (h : H p = none) : Same H (upd H p o) := fun b u e => by rw [upd_ne (ne_of_none e h)]; exact e
theorem same_keep {H H' : Hp} {p : Addr} {o : HO} (s : Same H H') (h : H p = none) : Same H (upd H' p o) := fun b u e => by rw [upd_ne (ne_of_none e h)]; exact s b u e
theorem lc_rel {J : It} {H1 : Hp} {D : Addr} {σ : L2.St} {vs : List Nat} {g : TG} {te : TE} {Qf : Hp → Prop} (hD : H1 D = none) (n : Nat) (hn : n ≤ sizeLine) (Pr : Nat → V → Hp → Prop)
    (stay : ∀ k v H H', k < n → Same H H' → Pr k v H → Pr k v H')
    (hgo : ∀ i Hh, i < n → Same H1 Hh → J.go i Hh) (hstop : ∀ Hh, Same H1 Hh → J.stop n Hh)
    (turn : ∀ i Hh x H', i < n → Same H1 Hh → (∃ acc, Hh D = some (.lst acc)) → J.yld i Hh x H' → ∀ C : VK, (∀ y H4, Same Hh H4 → Pr i y (hide D H4) → C y H4) → g x (wipe σ vs) H' fun σ2 H2 => wipe σ2 vs = wipe σ vs ∧ te σ2 H2 C)
    (fin : ∀ Hh xs, Same H1 Hh → xs.length = n → (∀ (k : Nat) (v : V), xs[k]? = some v → Pr k v Hh) → Hh D = some (.lst xs) → Qf Hh) :
    ∃ W : Nat → Nat → Hp → Prop, (∃ m, W 0 m (upd H1 D (.lst []))) ∧ ∀ i m H, W i m H →
      (J.stop i H ∧ Qf H) ∨ (J.go i H ∧ ∃ Nx : Hp → Prop, (∀ H', Nx H' → ∃ m', m' < m ∧ W (i + 1) m' H') ∧ ∀ x H', J.yld i H x H' → g x (wipe σ vs) H' fun σ2 H2 => wipe σ2 vs = wipe σ vs ∧ tYes σ2 H2 fun b H3 =>
        if b = true then te σ2 H3 fun y H4 => ∃ acc, H4 D = some (.lst acc) ∧ acc.length < sizeLine ∧ Nx (upd H4 D (.lst (acc ++ [y]))) else Nx H3) := by
  refine ⟨fun i m H => i + m = n ∧ Same H1 H ∧ ∃ xs : List V, xs.length = i ∧ H D = some (.lst xs) ∧ ∀ (k : Nat) (v : V), xs[k]? = some v → Pr k v (hide D H), ⟨n, by omega, same_new hD, [], rfl, upd_same, fun k v e => by simp at e⟩, ?_⟩
  rintro i m H ⟨hm, s1, xs, hl, hx, hp⟩
  by_cases hi : i = n
  · subst hi
    exact .inl ⟨hstop H s1, fin H xs s1 hl (fun k v e => stay k v _ _ (by have := (List.getElem?_eq_some_iff.mp e).1; omega) (hide_same D H) (hp k v e)) hx⟩
  · have hi : i < n := by omega
    refine .inr ⟨hgo i H hi s1, fun H' => ∃ m', m' < m ∧ i + 1 + m' = n ∧ Same H1 H' ∧ ∃ xs : List V, xs.length = i + 1 ∧ H' D = some (.lst xs) ∧ ∀ (k : Nat) (v : V), xs[k]? = some v → Pr k v (hide D H'), fun H' h => ?_, fun x H' hy => ?_⟩
    · obtain ⟨m', h1, h2, h3⟩ := h
      exact ⟨m', h1, h2, h3⟩
    · refine turn i H x H' hi s1 ⟨xs, hx⟩ hy _ fun y H4 s4 p4 => ?_
      refine ⟨xs, s4 _ _ hx, by omega, m - 1, by omega, by omega, same_keep (s1.trans s4) hD, xs ++ [y], by rw [List.length_append, hl]; rfl, upd_same, fun k v e => ?_⟩
      rw [hide_upd]
      by_cases hk : k < xs.length
      · rw [List.getElem?_append_left hk] at e
        exact stay k v _ _ (by omega) (hide_mono s4) (hp k v e)
      · rw [List.getElem?_append_right (by omega)] at e
        have hk0 : k - xs.length = 0 := by
          have := (List.getElem?_eq_some_iff.mp e).1
          simp at this; omega
        rw [hk0] at e
        have e := Option.some.inj e
        subst e
        have : k = i := by omega
        subst this
        exact p4
theorem lc_val {J : It} {H1 : Hp} {D : Addr} {σ : L2.St} {vs : List Nat} {g : TG} {te : TE} {Qf : Hp → Prop} (hD : H1 D = none) (n : Nat) (hn : n ≤ sizeLine) (val : Nat → V)
    (hgo : ∀ i Hh, i < n → Same H1 Hh → J.go i Hh) (hstop : ∀ Hh, Same H1 Hh → J.stop n Hh)
    (turn : ∀ i Hh x H', i < n → Same H1 Hh → J.yld i Hh x H' → ∀ C : VK, (∀ H4, Same Hh H4 → C (val i) H4) → g x (wipe σ vs) H' fun σ2 H2 => wipe σ2 vs = wipe σ vs ∧ te σ2 H2 C)
    (fin : ∀ Hh, Same H1 Hh → Hh D = some (.lst ((List.range n).map val)) → Qf Hh) :
    ∃ W : Nat → Nat → Hp → Prop, (∃ m, W 0 m (upd H1 D (.lst []))) ∧ ∀ i m H, W i m H →
      (J.stop i H ∧ Qf H) ∨ (J.go i H ∧ ∃ Nx : Hp → Prop, (∀ H', Nx H' → ∃ m', m' < m ∧ W (i + 1) m' H') ∧ ∀ x H', J.yld i H x H' → g x (wipe σ vs) H' fun σ2 H2 => wipe σ2 vs = wipe σ vs ∧ tYes σ2 H2 fun b H3 =>
        if b = true then te σ2 H3 fun y H4 => ∃ acc, H4 D = some (.lst acc) ∧ acc.length < sizeLine ∧ Nx (upd H4 D (.lst (acc ++ [y]))) else Nx H3) := by
  refine lc_rel hD n hn (fun k v _ => v = val k) (fun _ _ _ _ _ _ h => h) hgo hstop (fun i Hh x H' hi s1 _ hy C hC => turn i Hh x H' hi s1 hy C fun H4 s4 => hC _ H4 s4 rfl) fun Hh xs s1 hl hp hx => fin Hh s1 ?_
  have : xs = (List.range n).map val := by
    refine List.ext_getElem? fun k => ?_
    by_cases hk : k < n
    · rw [List.getElem?_map, List.getElem?_range hk]
      have e := List.getElem?_eq_getElem (l := xs) (i := k) (by omega)
      rw [e, hp k _ e]; rfl
    · rw [List.getElem?_eq_none (by omega), List.getElem?_eq_none (by rw [List.length_map, List.length_range]; omega)]
  rw [← this]; exact hx
theorem pe_gi {X : Cx} {x : Str} {i : Int} {tk : Tok} {pos : Pos} (hg : Gl X x) (hm : X.mg x = some (.int i tk)) (hd : (x == ("__debug__" : Str)) = false := by decide) : PE X (.Name x pos) (tC (.int i)) := pe_glob hg hm (show RelV (.int i) (.int i tk) from ⟨tk, rfl⟩) hd
theorem pe_gr {X : Cx} {x : Str} {a : Addr} {pos : Pos} (hg : Gl X x) (hm : X.mg x = some (.ref a)) (hd : (x == ("__debug__" : Str)) = false := by decide) : PE X (.Name x pos) (tC (.ref a)) := pe_glob hg hm (show RelV (.ref a) (.ref a) from rfl) hd
theorem pfldK {X : Cx} {K : PySem.W.Frag} {e : Expr} {f : Str} {pos : Pos} {ta : TE} (h : X.K = K) (he : PE X e ta) (hb : attributeBase e f X.env (eval e X.env) = eval e X.env) : PE X (.Attribute e f pos) (tFld K ta f) := by subst h; exact pe_fld he hb
end Wg
namespace Wg
open PySem PySem.Spec PyProof.Rows L2
section
variable {P : Program} {w : World} {K : PySem.W.Frag} {mg : Str → Option Value} {base : Heap} {A : Adr}
theorem _root_.L2.Same.none {H H' : Hp} {b : Addr} (s : Same H H') (h : H' b = none) : H b = none := by
  cases q : H b with
  | none => rfl
  | some o => rw [s b o q] at h; cases h
def vN (F : List Nat) : List V := F.map fun (n : Nat) => V.int (n : Int)
theorem vN_int (F : List Nat) : vN F = (F.map fun (n : Nat) => (n : Int)).map V.int := by unfold vN; rw [List.map_map]; rfl
theorem vN_len (F : List Nat) : (vN F).length = F.length := by simp [vN]
theorem vN_get {F : List Nat} {i : Nat} (h : i < F.length) : (vN F)[i]? = some (.int ((F.getD i 0 : Nat) : Int)) := by
  unfold vN
  rw [List.getElem?_map, List.getElem?_eq_getElem h, List.getD_eq_getElem?_getD, List.getElem?_eq_getElem h]; rfl
theorem vN_get' {F : List Nat} {i : Nat} {x : V} (h : (vN F)[i]? = some x) : x = .int ((F.getD i 0 : Nat) : Int) ∧ i < F.length := by
  have hi : i < F.length := by
    have := (List.getElem?_eq_some_iff.mp h).1
    rwa [vN_len] at this
  rw [vN_get hi] at h
  exact ⟨(Option.some.inj h).symm, hi⟩
theorem cut_any {α : Type} (l : List α) (a b : Nat) : (l.drop (min a l.length)).take (min b l.length - min a l.length) = (l.drop a).take (b - a) := by
  have e : l.drop (min a l.length) = l.drop a := by
    rw [List.drop_eq_drop_iff]; omega
  rw [e, List.take_eq_take_iff, List.length_drop]; omega
theorem vN_cut (F : List Nat) (a b : Nat) : cutV (vN F) (some (a : Int)) (some (b : Int)) = vN ((F.drop a).take (b - a)) := by
  unfold cutV HT.sIx vN
  simp only [List.length_map]
  rw [if_neg (by omega), if_neg (by omega), Int.toNat_natCast, Int.toNat_natCast, ← List.map_drop, ← List.map_take, cut_any]
theorem vN_from (F : List Nat) (a : Nat) : cutV (vN F) (some (a : Int)) none = vN (F.drop a) := by
  unfold cutV HT.sIx vN
  simp only [List.length_map]
  rw [if_neg (by omega), Int.toNat_natCast, ← List.map_drop, ← List.map_take]
  congr 1
  rw [show F.drop (min a F.length) = F.drop a by rw [List.drop_eq_drop_iff]; omega, List.take_of_length_le (by rw [List.length_drop]; omega)]
theorem pow256 (k : Nat) : 256 ^ k = 2 ^ (8 * k) := by rw [Nat.pow_mul]
theorem from_lt : ∀ (l : List Nat), (∀ x ∈ l, x < 256) → ∀ n, l.foldl (fun n c => 256 * n + c) n < (n + 1) * 256 ^ l.length
  | [], _, n => by simp
  | x :: l, h, n => by
    have := from_lt l (fun y hy => h y (List.mem_cons_of_mem _ hy)) (256 * n + x)
    rw [List.foldl_cons, List.length_cons, Nat.pow_succ]
    have hx := h x (List.mem_cons_self ..)
    have h2 : (256 * n + x + 1) * 256 ^ l.length ≤ ((n + 1) * 256) * 256 ^ l.length := Nat.mul_le_mul_right _ (by omega)
    have e : (n + 1) * (256 ^ l.length * 256) = (n + 1) * 256 * 256 ^ l.length := by rw [Nat.mul_comm (256 ^ l.length), Nat.mul_assoc]
    omega
theorem fromN_lt {l : List Nat} (h : ∀ x ∈ l, x < 256) : fromN l < 256 ^ l.length := by
  have := from_lt l h 0
  rwa [Nat.zero_add, Nat.one_mul] at this
theorem take_fold {α β : Type} (f : β → α → β) (l : List α) (i : Nat) (h : i < l.length) (b : β) : (l.take (i + 1)).foldl f b = f ((l.take i).foldl f b) l[i] := by
  rw [List.take_succ, List.getElem?_eq_getElem h, List.foldl_append]; rfl
theorem getD_lt {l : List Nat} {m i : Nat} (h : ∀ x ∈ l, x < m) (hi : i < l.length) : l.getD i 0 < m := h _ (by rw [List.getD_eq_getElem?_getD, List.getElem?_eq_getElem hi]; exact List.getElem_mem hi)
theorem getD_at {l : List Nat} {i : Nat} (hi : i < l.length) : l.getD i 0 = l[i] := by rw [List.getD_eq_getElem?_getD, List.getElem?_eq_getElem hi]; rfl
theorem or_low {n b : Nat} (h : b < 256) : (256 * n) ||| b = 256 * n + b := by
  have := Nat.two_pow_add_eq_or_of_lt (i := 8) h n
  exact this.symm
theorem bits_lt {n k : Nat} (h : n < 2 ^ k) : Builtin.Int.intBits ((n : Nat) : Int) ≤ k := by rw [bl_int]; exact bl_le h
theorem for_gen {J : It} {g : TG} {tb : TS} {D : Ends} {σ : L2.St} {H : Hp} (n : Nat) (Pv : Nat → L2.St → Hp → Prop) (h0 : Pv 0 σ H) (hgo : ∀ i σ H, i < n → Pv i σ H → J.go i H) (hstop : ∀ σ H, Pv n σ H → J.stop n H)
    (hs : ∀ i σ H x H', i < n → Pv i σ H → J.yld i H x H' → g x σ H' fun σ2 H2 => tb { D with nx := Pv (i + 1), ct := Pv (i + 1), bk := D.nx } σ2 H2) (hd : ∀ σ H, Pv n σ H → D.nx σ H) :
    ∃ W : Nat → Nat → L2.St → Hp → Prop, (∃ m, W 0 m σ H) ∧ ∀ i m σ H, W i m σ H →
      (J.stop i H ∧ D.nx σ H) ∨ (J.go i H ∧ ∃ N : L2.St → Hp → Prop, (∀ σ' H', N σ' H' → ∃ m', m' < m ∧ W (i + 1) m' σ' H') ∧ ∀ x H', J.yld i H x H' → g x σ H' fun σ2 H2 => tb { D with nx := N, ct := N, bk := D.nx } σ2 H2) := by
  refine ⟨fun i m σ H => i + m = n ∧ Pv i σ H, ⟨n, by omega, h0⟩, ?_⟩
  rintro i m σ H ⟨hm, p⟩
  by_cases hi : i = n
  · subst hi
    exact .inl ⟨hstop σ H p, hd σ H p⟩
  · exact .inr ⟨hgo i σ H (by omega) p, Pv (i + 1), fun σ' H' p' => ⟨m - 1, by omega, by omega, p'⟩, fun x H' y => hs i σ H x H' (by omega) p y⟩
theorem pgtK {X : Cx} {K : PySem.W.Frag} {pos : Pos} {es : List Expr} {k : Nat} {t : TGs} {n : Nat} (h : X.K = K) (hc : X.calm = true) (hg : PGs X es t)
    (hn : (assignEach es X.env).length = n := by rfl) (hst : (assignEach es X.env).findIdx? (·.1) = none := by rfl) : PG X (.Tuple es k pos) (gTup K n t) := by subst h; exact pg_tup hc hg hn hst
theorem ref_get' {as : List Addr} {i : Nat} {x : V} (h : (as.map V.ref)[i]? = some x) : ∃ a, x = .ref a ∧ as[i]? = some a := by
  rw [List.getElem?_map] at h
  cases e : as[i]? with
  | none => rw [e] at h; cases h
  | some a => rw [e] at h; exact ⟨a, (Option.some.inj h).symm, rfl⟩
theorem ref_get {as : List Addr} {i : Nat} (h : i < as.length) : ∃ a, (as.map V.ref)[i]? = some (.ref a) ∧ as[i]? = some a := ⟨as[i], by rw [List.getElem?_map, List.getElem?_eq_getElem h]; rfl, List.getElem?_eq_getElem h⟩
def bn (b : Sound.Bytes) : List Nat := b.map UInt8.toNat
theorem bn_len (b : Sound.Bytes) : (bn b).length = b.length := by unfold bn; rw [List.length_map]
theorem bn_lt (b : Sound.Bytes) : ∀ x ∈ bn b, x < 256 := fun x hx => by
  obtain ⟨c, _, rfl⟩ := List.mem_map.mp hx
  exact c.toNat_lt
theorem bn_drop (b : Sound.Bytes) (n : Nat) : (bn b).drop n = bn (b.drop n) := by unfold bn; rw [List.map_drop]
theorem bn_take (b : Sound.Bytes) (n : Nat) : (bn b).take n = bn (b.take n) := by unfold bn; rw [List.map_take]
def newOf (H H' : Hp) : Hp := fun b => match H b with
  | none => H' b
  | some _ => none
theorem newOf_at {H H' : Hp} {b : Addr} (h : H b = none) : newOf H H' b = H' b := by unfold newOf; rw [h]
theorem newOf_in {H H' : Hp} {b : Addr} {o : HO} (h : newOf H H' b = some o) : H b = none ∧ H' b = some o := by
  unfold newOf at h
  cases e : H b with
  | none => rw [e] at h; exact ⟨rfl, h⟩
  | some u => rw [e] at h; cases h
def spFrom (K : PySem.W.Frag) : Sp := fun vs H Q _ => ∃ (q : Addr) (l : List Nat), vs = [.ref q] ∧ SqL K H q (vN l) ∧ l.length ≤ 1000 ∧ (∀ x ∈ l, x < 256) ∧ Q (.int (fromN l : Nat)) H
theorem sc_from_octets : FnScope ["data", "number", "byte"] ["data"] (defScope s_from_octets) := ⟨rfl, rfl, rfl, by decide +kernel, rfl, by decide +kernel, by decide +kernel⟩
theorem ok_from_octets (T : Txt K mg A) : FnOk P w K mg base CX0 1 A.f_from_octets A.d_from_octets ["data"] (spFrom K) := by
  refine T.F_from_octets.ok sc_from_octets (fun vs H Q E h => ?_) (fun cdv Ar outer s H vs Q E hr h => ?_)
  · obtain ⟨q, l, rfl, _⟩ := h
    rfl
  · obtain ⟨q, l, rfl, hq, hl, hb, k⟩ := h
    refine ⟨_, pss_cons (ps_set (i := 1) sc_from_octets.nd rfl (Or.inl rfl) pe_int)
      (pss_cons (ps_for PassesOwn.never rfl (pi_list (pv 0)) (pg_name (i := 2) sc_from_octets.nd rfl (Or.inl rfl))
        (pss_one (ps_set (i := 1) sc_from_octets.nd rfl (Or.inl rfl) (pe_op op_or (pe_op op_shlB (pv 1) pe_int) (pv 2)))))
      (pss_one (ps_ret (pv 1)))), ?_⟩
    refine ⟨_, rfl, q, rfl, ⟨_, hq⟩, ?_⟩
    refine for_list (K := K) (a := q) (xs := vN l) (fun i σ H' => H' = H ∧ ∃ v2 : Option V, σ = [some (.ref q), some (.int (fromN (l.take i) : Nat)), v2]) ⟨rfl, none, rfl⟩ (fun i σ H' _ ⟨e, _⟩ => by rw [e]; exact hq) ?_ ?_
    · rintro i x σ H' hi ⟨rfl, v2, rfl⟩
      obtain ⟨rfl, hil⟩ := vN_get' hi
      have hlt := fromN_lt (l := l.take i) fun x hx => hb x (List.mem_of_mem_take hx)
      have hbits : Builtin.Int.intBits ((fromN (l.take i) : Nat) : Int) ≤ 8 * i := by
        rw [pow256, List.length_take] at hlt
        exact bits_lt (Nat.lt_of_lt_of_le hlt (Nat.pow_le_pow_right (by decide) (by omega)))
      have e27 : (2 : Int) ^ 27 = 134217728 := by decide
      refine ⟨_, rfl, _, _, rfl, rfl, ⟨by omega, by omega⟩, _, rfl, _, _, rfl, rfl, rfl, some (.int (l.getD i 0 : Nat)), ?_⟩
      have e : fromN (l.take (i + 1)) = 256 * fromN (l.take i) + l.getD i 0 := by
        unfold fromN
        rw [take_fold _ _ _ hil, getD_at hil]
      have ex : Builtin.bitOr (((fromN (l.take i) : Nat) : Int) * 2 ^ (8 : Int).toNat) ((l.getD i 0 : Nat) : Int) = ((fromN (l.take (i + 1)) : Nat) : Int) := by
        have e8 : ((fromN (l.take i) : Nat) : Int) * 2 ^ (8 : Int).toNat = ((256 * fromN (l.take i) : Nat) : Int) := by
          rw [show (2 : Int) ^ (8 : Int).toNat = 256 by decide]; omega
        rw [e8, bitOr_nat, or_low (getD_lt hb hil), e]
      show [some (V.ref q), some (V.int (Builtin.bitOr _ _)), _] = _
      rw [ex]
    · rintro σ H' ⟨rfl, v2, rfl⟩
      refine ⟨_, rfl, ?_⟩
      have : fromN (l.take (vN l).length) = fromN l := by rw [vN_len, List.take_length]
      rw [this]
      exact k
def spCrc32 (K : PySem.W.Frag) : Sp := fun vs H Q _ => ∃ (q : Addr) (l : List Nat), vs = [.ref q] ∧ SqL K H q (vN l) ∧ (∀ x ∈ l, x < 256) ∧ Q (.int (crcN l : Nat)) H
theorem sc_crc32 : FnScope ["data", "check", "byte"] ["data"] (defScope s_crc32) := ⟨rfl, rfl, rfl, by decide +kernel, rfl, by decide +kernel, by decide +kernel⟩
theorem and15 (n : Nat) : Builtin.bitAnd (n : Int) 15 = ((n % 16 : Nat) : Int) := by
  rw [show (15 : Int) = ((15 : Nat) : Int) from rfl, bitAnd_nat, show (15 : Nat) = 2 ^ 4 - 1 by decide, Nat.and_two_pow_sub_one_eq_mod]
theorem nib_step {c : Nat} {H : Hp} {a : Addr} {Qf : V → Hp → Prop} (hs : SqT K H a (vN STEPS)) (k : Qf (.int (nibN c : Nat)) H) {σ : L2.St} (hσ : σ[1]? = some (some (V.int (c : Nat)))) :
    tOp (rI0 fun i j => .int (Builtin.bitXor i j)) (tOp (rI (fun _ j => 0 ≤ j) fun i j => .int (i / 2 ^ j.toNat)) (tVar 1) (tC (.int 4))) (tOp (rIxT K) (tC (.ref a)) (tOp (rI0 fun i j => .int (Builtin.bitAnd i j)) (tVar 1) (tC (.int 15)))) σ H Qf := by
  refine ⟨_, hσ, _, _, rfl, rfl, (by show (0 : Int) ≤ 4; decide), _, hσ, _, _, rfl, rfl, ?_⟩
  dsimp only
  rw [and15]
  have hm : c % 16 < STEPS.length := Nat.mod_lt _ (by decide)
  refine ⟨a, _, _, _, rfl, rfl, hs, atI_nat (vN_get hm), _, _, rfl, rfl, ?_⟩
  have e : Builtin.bitXor (((c : Nat) : Int) / 2 ^ (4 : Int).toNat) ((STEPS.getD (c % 16) 0 : Nat) : Int) = ((nibN c : Nat) : Int) := by
    have e1 : ((c : Nat) : Int) / 2 ^ (4 : Int).toNat = ((c / 16 : Nat) : Int) := by rw [show (2 : Int) ^ (4 : Int).toNat = 16 by decide]; omega
    rw [e1, bitXor_nat]; rfl
  dsimp only
  rw [e]
  exact k
theorem ok_crc32 (T : Txt K mg A) : FnOk P w K mg base CX0 1 A.f_crc32 A.d_crc32 ["data"] (spCrc32 K) := by
  refine T.F_crc32.ok sc_crc32 (fun vs H Q E h => ?_) (fun cdv Ar outer s H vs Q E hr h => ?_)
  · obtain ⟨q, l, rfl, _⟩ := h
    rfl
  · obtain ⟨q, l, rfl, hq, hb, k⟩ := h
    refine ⟨_, pss_cons (ps_set (i := 1) sc_crc32.nd rfl (Or.inl rfl) pe_int)
      (pss_cons (ps_for PassesOwn.never rfl (pi_list (pv 0)) (pg_name (i := 2) sc_crc32.nd rfl (Or.inl rfl))
        (pss_cons (ps_aug (i := 1) sc_crc32.nd rfl (Or.inl rfl) (pv 2) iop_xor)
        (pss_cons (ps_set (i := 1) sc_crc32.nd rfl (Or.inl rfl) (pe_op op_xor (pe_op op_shr (pv 1) pe_int) (pe_ix ix_tup (pe_gr rfl T.g_CRC32_STEPS) (pe_op op_and (pv 1) pe_int) (fun _ _ => rfl))))
        (pss_one (ps_set (i := 1) sc_crc32.nd rfl (Or.inl rfl) (pe_op op_xor (pe_op op_shr (pv 1) pe_int) (pe_ix ix_tup (pe_gr rfl T.g_CRC32_STEPS) (pe_op op_and (pv 1) pe_int) (fun _ _ => rfl))))))))
      (pss_one (ps_ret (pe_op op_xor (pv 1) pe_int)))), ?_⟩
    refine ⟨_, rfl, q, rfl, ⟨_, hq⟩, ?_⟩
    have hS : ∀ H, SqT K H A.a_CRC32_STEPS (vN STEPS) := fun H => T.q_CRC32_STEPS H
    refine for_list (K := K) (a := q) (xs := vN l) (fun i σ H' => H' = H ∧ ∃ v2 : Option V, σ = [some (.ref q), some (.int ((l.take i).foldl crcBN 0xFFFFFFFF : Nat)), v2]) ⟨rfl, none, rfl⟩ (fun i σ H' _ ⟨e, _⟩ => by rw [e]; exact hq) ?_ ?_
    · rintro i x σ H' hi ⟨rfl, v2, rfl⟩
      obtain ⟨rfl, hil⟩ := vN_get' hi
      refine ⟨_, rfl, _, rfl, _, _, rfl, rfl, ?_⟩
      dsimp only
      rw [bitXor_nat]
      refine nib_step (hS _) (nib_step (hS _) ⟨rfl, some (.int (l.getD i 0 : Nat)), ?_⟩ rfl) rfl
      rw [take_fold _ _ _ hil, ← getD_at hil]
      rfl
    · rintro σ H' ⟨rfl, v2, rfl⟩
      refine ⟨_, rfl, _, _, rfl, rfl, ?_⟩
      dsimp only
      rw [vN_len, List.take_length, show (4294967295 : Int) = ((4294967295 : Nat) : Int) from rfl, bitXor_nat]
      exact k
def spCounted (K : PySem.W.Frag) : Sp := fun vs H Q _ => ∃ (q : Addr) (xs : List V), vs = [.ref q] ∧ SqL K H q xs ∧ xs.length ≤ 1000000 ∧ ∀ D H', H D = none → Same H H' → H' D = some (.lst (.int (xs.length : Nat) :: xs)) → Q (.ref D) H'
theorem sc_counted : FnScope ["data"] ["data"] (defScope s_counted) := ⟨rfl, rfl, rfl, by decide +kernel, rfl, by decide +kernel, by decide +kernel⟩
theorem ok_counted (T : Txt K mg A) : FnOk P w K mg base CX0 1 A.f_counted A.d_counted ["data"] (spCounted K) := by
  refine T.F_counted.ok sc_counted (fun vs H Q E h => ?_) (fun cdv Ar outer s H vs Q E hr h => ?_)
  · obtain ⟨q, l, rfl, _⟩ := h
    rfl
  · obtain ⟨q, l, rfl, hq, hl, k⟩ := h
    refine ⟨_, pss_one (ps_ret (pe_op op_catS (pe_lst (pa_cons (pe_callB call_len_seq (by rfl) T.z_len PySem.boot_len (pa_cons (pv 0) pa_nil)) pa_nil)) (pv 0))), ?_⟩
    refine ⟨_, rfl, q, _, rfl, .inl hq, by rw [sizeLine_eq]; show 1 ≤ _; omega, fun p hp => ?_⟩
    refine ⟨_, rfl, p, q, _, _, rfl, rfl, SqL.of upd_same, (same_new hp).seq hq, (by rw [sizeLine_eq]; show 1 + _ ≤ _; omega), fun p2 hp2 => ?_⟩
    have n2 : H p2 = none := (same_new hp).none hp2
    exact k p2 _ n2 (same_keep (same_new hp) n2) upd_same
theorem same_made {H : Hp} {x dx : Addr} {o u : HO} (hx : H x = none) (hd : H dx = none) : Same H (upd (upd H dx o) x u) := fun b v e => by
  rw [upd_ne (ne_of_none e hx), upd_ne (ne_of_none e hd)]; exact e
theorem upd_made {H : Hp} {x dx C : Addr} {fs : List (Str × V)} : upd (upd (upd H dx (.own x)) x (.ins C dx [])) x (.ins C dx fs) = upd (upd H dx (.own x)) x (.ins C dx fs) := upd_upd
def RLo : List Nat := [1, 4, 16, 0, 1, 0]
def RHi : List Nat := [4, 24, 256, 4, 8, 4]
def rgOk (i z : Nat) : Bool := decide (((RLo.getD i 0 : Nat) : Int) ≤ (z : Nat)) && decide ((z : Int) ≤ (RHi.getD i 0 : Nat))
theorem rng_at (T : Txt K mg A) {i : Nat} (hi : i < 6) : ∃ b, ([V.ref A.a_RANGES_0, V.ref A.a_RANGES_1, V.ref A.a_RANGES_2, V.ref A.a_RANGES_3, V.ref A.a_RANGES_4, V.ref A.a_RANGES_5] : List V)[i]? = some (.ref b) ∧ ∀ H, SqT K H b [V.int ((RLo.getD i 0 : Nat) : Int), V.int ((RHi.getD i 0 : Nat) : Int)] := by
  rcases (by omega : i = 0 ∨ i = 1 ∨ i = 2 ∨ i = 3 ∨ i = 4 ∨ i = 5) with rfl | rfl | rfl | rfl | rfl | rfl
  · exact ⟨_, rfl, T.q_RANGES_0⟩
  · exact ⟨_, rfl, T.q_RANGES_1⟩
  · exact ⟨_, rfl, T.q_RANGES_2⟩
  · exact ⟨_, rfl, T.q_RANGES_3⟩
  · exact ⟨_, rfl, T.q_RANGES_4⟩
  · exact ⟨_, rfl, T.q_RANGES_5⟩
theorem form_none {fm : List Nat} (h : ¬ fm.length = 6) : (Sound.formOf fm).isSome = false := by
  unfold Sound.formOf
  split
  · exact absurd rfl h
  · rfl
theorem form_all {fm : List Nat} (h : fm.length = 6) : ((List.range 6).map fun i => rgOk i (fm.getD i 0)).all id = (Sound.formOf fm).isSome := by
  match fm, h with
  | [c, d, b, o, g, p], _ =>
    rw [show List.range 6 = [0, 1, 2, 3, 4, 5] from rfl]
    have e : (Sound.formOf [c, d, b, o, g, p]).isSome = (Sound.Form.mk c d b o g p).ok := by
      unfold Sound.formOf
      simp only
      cases (Sound.Form.mk c d b o g p).ok <;> rfl
    rw [e, Bool.eq_iff_iff]
    unfold Sound.Form.ok
    simp only [List.map_cons, List.map_nil, List.all_cons, List.all_nil, rgOk, RLo, RHi, List.getD_cons_zero, List.getD_cons_succ, id, Bool.and_eq_true, decide_eq_true_eq, and_true]
    omega
def spIsForm (K : PySem.W.Frag) : Sp := fun vs H Q _ => ∃ (q : Addr) (fm : List Nat), vs = [.ref q] ∧ SqL K H q (vN fm) ∧ ∀ H', Same H H' → Q (.bl (Sound.formOf fm).isSome) H'
theorem sc_is_form : FnScope ["form", "number", "bounds"] ["form"] (defScope s_is_form) := ⟨rfl, rfl, rfl, by decide +kernel, rfl, by decide +kernel, by decide +kernel⟩
theorem ok_is_form (T : Txt K mg A) : FnOk P w K mg base CX0 1 A.f_is_form A.d_is_form ["form"] (spIsForm K) := by
  refine T.F_is_form.ok sc_is_form (fun vs H Q E h => ?_) (fun cdv Ar outer s H vs Q E hr h => ?_)
  · obtain ⟨q, fm, rfl, _⟩ := h
    rfl
  · obtain ⟨q, fm, rfl, hq, k⟩ := h
    refine ⟨_, pss_cons (ps_if (pt_cmpR op_ne (pe_callB call_len_seq (by rfl) T.z_len PySem.boot_len (pa_cons (pv 0) pa_nil)) (pe_callB call_len_seq (by rfl) T.z_len PySem.boot_len (pa_cons (pe_gr rfl T.g_RANGES) pa_nil)) (nomark _)) (pss_one (ps_ret pe_bl)) pss_nil)
      (pss_one (ps_ret (pe_callB (cr_all rfl) rfl T.z_all (by decide +kernel : bootBuiltins "all" = some (.builtin "all")) (pa_cons (pe_lc (own := [("number", 1), ("bounds", 2)]) rfl sc_is_form.nd (pi_zipT rfl T.z_zip (pa_cons (pv 0) (pa_cons (pe_gr rfl T.g_RANGES) pa_nil))) (blkOk_by (by kernel_rfl))
        (fun _ _ _ _ _ => pgtK (K := K) (n := 2) rfl rfl (pgs_cons (pg_name (i := 1) sc_is_form.nd rfl (Or.inl rfl)) (pgs_cons (pg_name (i := 2) sc_is_form.nd rfl (Or.inl rfl)) pgs_nil))) (fun _ _ _ _ _ => pts_nil)
        (fun _ _ _ _ _ => pe_chain op_le op_le (pe_ix (ixT (K := K) rfl) (pv 2) pe_int (fun _ _ => rfl)) (pv 1) (pe_ix (ixT (K := K) rfl) (pv 2) pe_int (fun _ _ => rfl)))) pa_nil)))), ?_⟩
    refine ⟨_, rfl, q, _, rfl, .inl hq, A.a_RANGES, _, rfl, .inr (T.q_RANGES _), rfl, _, rfl, ?_⟩
    refine ite2 (fun hne => ?_) fun hne => ?_
    · have h6 : ¬ fm.length = 6 := fun e => by
        have hl : (vN fm).length = 6 := by rw [vN_len, e]
        rw [hl] at hne
        exact absurd hne (show ¬ ((!decide (V.int ((6 : Nat) : Int) = V.int ((6 : Nat) : Int))) = true) by decide)
      have := k H (Same.refl _)
      rw [form_none h6] at this
      exact this
    · have h6 : fm.length = 6 := by
        by_cases e : fm.length = 6
        · exact e
        · exfalso
          apply hne
          rw [Bool.not_eq_true', decide_eq_false_iff_not]
          intro z
          have z := V.int.inj z
          rw [vN_len] at z
          have z : ((fm.length : Nat) : Int) = ((6 : Nat) : Int) := z
          omega
      refine ⟨_, rfl, q, A.a_RANGES, _, _, rfl, hq, T.q_RANGES _, fun D hD => ?_⟩
      refine lc_val (J := Itzt K q A.a_RANGES) hD 6 (by rw [sizeLine_eq]; omega) (fun i => .bl (rgOk i (fm.getD i 0)))
        (fun i Hh hi s1 => by
          obtain ⟨b, hb1, _⟩ := rng_at T hi
          exact ⟨_, _, _, _, s1.seq hq, T.q_RANGES _, vN_get (by omega), hb1⟩) (fun Hh s1 => ⟨_, _, s1.seq hq, T.q_RANGES _, .inl (by rw [vN_len]; omega)⟩) ?_ ?_
      · rintro i Hh z H' hi s1 ⟨t, x1, y1, rfl, ht, rfl, hx, hy⟩ C hC
        obtain ⟨rfl, _⟩ := vN_get' (hx _ (s1.seq hq))
        obtain ⟨b, hb1, hb2⟩ := rng_at T hi
        have e := hy _ (T.q_RANGES _)
        rw [hb1] at e
        cases e
        have st : Same Hh (upd Hh t (.tup [V.int ((fm.getD i 0 : Nat) : Int), V.ref b])) := same_new ht
        refine ⟨t, _, rfl, SqT.of upd_same, rfl, _, _, rfl, _, _, rfl, rfl, rfl, ?_⟩
        refine ⟨_, rfl, b, _, _, _, rfl, rfl, hb2 _, atI_nat (j := 0) rfl, _, rfl, _, _, rfl, rfl, _, rfl, ?_⟩
        have hC := hC _ st
        unfold rgOk at hC
        by_cases c1 : ((RLo.getD i 0 : Nat) : Int) ≤ ((fm.getD i 0 : Nat) : Int)
        · rw [decide_eq_true c1, Bool.true_and] at hC
          rw [decide_eq_true c1]
          exact iteT ⟨_, rfl, b, _, _, _, rfl, rfl, hb2 _, atI_nat (j := 1) rfl, _, _, rfl, rfl, hC⟩
        · rw [decide_eq_false c1, Bool.false_and] at hC
          rw [decide_eq_false c1]
          exact iteF hC
      · intro Hh s1 hx
        refine ⟨D, (List.range 6).map fun i => rgOk i (fm.getD i 0), rfl, SqL.of (hx.trans ?_), ?_⟩
        · rw [List.map_map]; rfl
        · rw [form_all h6]
          exact k _ s1
def fm6 (c d b o g s : V) : List (Str × V) := [("channels", c), ("depth", d), ("block", b), ("order", o), ("group", g), ("spare", s)]
def IsFm (C : Addr) (H : Hp) (f : Addr) (F : Sound.Form) : Prop := ∃ dx, H f = some (.ins C dx (fm6 (.int F.channels) (.int F.depth) (.int F.block) (.int F.order) (.int F.group) (.int F.spare)))
theorem IsFm.same {C : Addr} {H H' : Hp} {f : Addr} {F : Sound.Form} (h : IsFm C H f F) (s : Same H H') : IsFm C H' f F := by
  obtain ⟨dx, h⟩ := h
  exact ⟨dx, s _ _ h⟩
def spFm (K : PySem.W.Frag) (C : Addr) : Sp := fun vs H Q _ => ∃ (p dx q : Addr) (c d b o g s : Int), vs = [.ref p, .ref q] ∧ H p = some (.ins C dx []) ∧ SqL K H q [.int c, .int d, .int b, .int o, .int g, .int s] ∧ Q .non (upd H p (.ins C dx (fm6 (.int c) (.int d) (.int b) (.int o) (.int g) (.int s))))
theorem sc_Form_init : FnScope ["self", "form"] ["self", "form"] (defScope s_Form_init) := ⟨rfl, rfl, rfl, by decide +kernel, rfl, by decide +kernel, by decide +kernel⟩
theorem ok_Form_init (T : Txt K mg A) : FnOk P w K mg base CX0 1 A.f_Form_init A.d_Form_init ["self", "form"] (spFm K A.c_Form) := by
  refine T.F_Form_init.ok sc_Form_init (fun vs H Q E h => ?_) (fun cdv Ar outer s H vs Q E hr h => ?_)
  · obtain ⟨p, dx, q, c, d, b, o, g, s, rfl, _⟩ := h
    rfl
  · obtain ⟨p, dx, q, c, d, b, o, g, s, rfl, hp, hq, k⟩ := h
    refine ⟨_, pss_cons (ps_fld (pv 0) (pe_ix ix_list (pv 1) pe_int (fun _ _ => rfl)) rfl) (pss_cons (ps_fld (pv 0) (pe_ix ix_list (pv 1) pe_int (fun _ _ => rfl)) rfl) (pss_cons (ps_fld (pv 0) (pe_ix ix_list (pv 1) pe_int (fun _ _ => rfl)) rfl)
      (pss_cons (ps_fld (pv 0) (pe_ix ix_list (pv 1) pe_int (fun _ _ => rfl)) rfl) (pss_cons (ps_fld (pv 0) (pe_ix ix_list (pv 1) pe_int (fun _ _ => rfl)) rfl) (pss_one (ps_fld (pv 0) (pe_ix ix_list (pv 1) pe_int (fun _ _ => rfl)) rfl)))))), ?_⟩
    have sq : ∀ fs, SqL K (upd H p (.ins A.c_Form dx fs)) q [.int c, .int d, .int b, .int o, .int g, .int s] := fun fs => by
      rcases hq with (h | ⟨ob, h⟩) | h
      · exact .inl (.inl (by rw [upd_ne (ne_of h hp (by intro e; cases e))]; exact h))
      · exact .inl (.inr ⟨ob, by rw [upd_ne (ne_of h hp (by intro e; cases e))]; exact h⟩)
      · exact .inr h
    refine ⟨_, rfl, q, _, _, _, rfl, rfl, hq, atI_nat (j := 0) rfl, _, rfl, p, A.c_Form, dx, [], rfl, hp, T.l_Form, T.n_Form_channels, (by show 0 < 1000; decide), ?_⟩
    refine ⟨_, rfl, q, _, _, _, rfl, rfl, sq _, atI_nat (j := 1) rfl, _, rfl, p, A.c_Form, dx, _, rfl, upd_same, T.l_Form, T.n_Form_depth, (by show 1 < 1000; decide), ?_⟩
    rw [upd_upd]
    refine ⟨_, rfl, q, _, _, _, rfl, rfl, sq _, atI_nat (j := 2) rfl, _, rfl, p, A.c_Form, dx, _, rfl, upd_same, T.l_Form, T.n_Form_block, (by show 2 < 1000; decide), ?_⟩
    rw [upd_upd]
    refine ⟨_, rfl, q, _, _, _, rfl, rfl, sq _, atI_nat (j := 3) rfl, _, rfl, p, A.c_Form, dx, _, rfl, upd_same, T.l_Form, T.n_Form_order, (by show 3 < 1000; decide), ?_⟩
    rw [upd_upd]
    refine ⟨_, rfl, q, _, _, _, rfl, rfl, sq _, atI_nat (j := 4) rfl, _, rfl, p, A.c_Form, dx, _, rfl, upd_same, T.l_Form, T.n_Form_group, (by show 4 < 1000; decide), ?_⟩
    rw [upd_upd]
    refine ⟨_, rfl, q, _, _, _, rfl, rfl, sq _, atI_nat (j := 5) rfl, _, rfl, p, A.c_Form, dx, _, rfl, upd_same, T.l_Form, T.n_Form_spare, (by show 5 < 1000; decide), ?_⟩
    rw [upd_upd]
    exact k
def bytesI (l : List Int) : Sound.Bytes := SoNeutral.bytes l
theorem bytesI_vals {l : List Int} (h : ∀ x ∈ l, 0 ≤ x ∧ x ≤ 255) : l.map V.int = vN (bn (bytesI l)) := by
  unfold vN bn bytesI SoNeutral.bytes
  rw [List.map_map, List.map_map]
  refine List.map_congr_left fun x hx => ?_
  obtain ⟨h1, h2⟩ := h x hx
  show V.int x = V.int (((UInt8.ofNat x.toNat).toNat : Nat) : Int)
  rw [UInt8.toNat_ofNat', Nat.mod_eq_of_lt (by omega)]
  congr 1; omega
theorem bytesI_len (l : List Int) : (bytesI l).length = l.length := by unfold bytesI SoNeutral.bytes; rw [List.length_map]
theorem notLong {l : List Int} (hl : l.length ≤ 16384) : Sound.tooLong (bytesI l) = false := by
  unfold Sound.tooLong Sound.FILE
  rw [bytesI_len]; exact decide_eq_false (by omega)
structure Rg where
  r : Addr
  dr : Addr
  q : Addr
  B : Sound.Bytes
def rgf (d p f o : V) : List (Str × V) := [("data", d), ("place", p), ("fault", f), ("fault_place", o)]
theorem rgf_place (d p f o p' : V) : putF "place" p' (rgf d p f o) = rgf d p' f o := by
  have n1 : ¬ ("data" : Str) = "place" := by decide
  simp only [rgf, putF, if_neg n1]; rfl
theorem rgf_fault (d p f o f' : V) : putF "fault" f' (rgf d p f o) = rgf d p f' o := by
  have n1 : ¬ ("data" : Str) = "fault" := by decide
  have n2 : ¬ ("place" : Str) = "fault" := by decide
  simp only [rgf, putF, if_neg n1, if_neg n2]; rfl
theorem rgf_fp (d p f o o' : V) : putF "fault_place" o' (rgf d p f o) = rgf d p f o' := by
  have n1 : ¬ ("data" : Str) = "fault_place" := by decide
  have n2 : ¬ ("place" : Str) = "fault_place" := by decide
  have n3 : ¬ ("fault" : Str) = "fault_place" := by decide
  simp only [rgf, putF, if_neg n1, if_neg n2, if_neg n3]; rfl
def RgS (C : Addr) (H : Hp) (R : Rg) (pl : Nat) : Prop := H R.r = some (.ins C R.dr (rgf (.ref R.q) (.int (pl : Nat)) (.int 0) (.int (R.B.length : Nat))))
def RgF (C : Addr) (H : Hp) (R : Rg) (k p : Nat) : Prop := ∃ pl : V, H R.r = some (.ins C R.dr (rgf (.ref R.q) pl (.int (k : Nat)) (.int (p : Nat))))
def RgI (K : PySem.W.Frag) (H : Hp) (R : Rg) : Prop := SqL K (hide R.r H) R.q (vN (bn R.B)) ∧ R.B.length ≤ 16384
theorem hide_go {r : Addr} {H H' : Hp} (s : Same (hide r H) H') : Same (hide r H) (hide r H') := fun b o e => by
  rw [hide_ne (hide_some e).2]; exact s b o e
theorem hide_step {r : Addr} {H H' H'' : Hp} (s : Same (hide r H) H') (s' : Same (hide r H') H'') : Same (hide r H) H'' := (hide_go s).trans s'
theorem hide_of {r : Addr} {H H' : Hp} (s : Same H H') : Same (hide r H) H' := (hide_same r H).trans s
theorem hide_put {r : Addr} {H : Hp} {o : HO} : Same (hide r H) (upd H r o) := fun b u e => by
  obtain ⟨e1, e2⟩ := hide_some e
  rw [upd_ne e2]; exact e1
theorem RgI.go {H H' : Hp} {R : Rg} (h : RgI K H R) (s : Same (hide R.r H) H') : RgI K H' R := ⟨(hide_go s).seq h.1, h.2⟩
theorem RgI.sq {H : Hp} {R : Rg} (h : RgI K H R) : SqL K H R.q (vN (bn R.B)) := (hide_same _ _).seq h.1
def Rres (A : Adr) (H : Hp) (R : Rg) {α : Type} (o : Except (Nat × Nat) (α × Nat)) (Q : α → Hp → Prop) (E : XK) : Prop := match o with
  | .ok (a, pl) => ∀ H', Same (hide R.r H) H' → RgS A.c_Reading H' R pl → Q a H'
  | .error (k, p) => ∀ H', Same (hide R.r H) H' → RgF A.c_Reading H' R k p → E (.ref A.c_Faulty) none H'
def takeR (B : Sound.Bytes) (pl n : Nat) : Except (Nat × Nat) (Sound.Bytes × Nat) := if B.length < pl + n then .error (1, B.length) else .ok ((B.drop pl).take n, pl + n)
def sealR (B : Sound.Bytes) (begin_ pl f : Nat) : Except (Nat × Nat) (Unit × Nat) := if B.length < pl + 4 then .error (1, B.length) else if Sound.fromHigh ((B.drop pl).take 4) ≠ Sound.crc32 ((B.drop begin_).take (pl - begin_)) then .error (f, pl) else .ok ((), pl + 4)
def spRgI (K : PySem.W.Frag) (C : Addr) : Sp := fun vs H Q _ => ∃ (p dx q : Addr) (xs : List V), vs = [.ref p, .ref q] ∧ H p = some (.ins C dx []) ∧ SqL K H q xs ∧ Q .non (upd H p (.ins C dx (rgf (.ref q) (.int 0) (.int 0) (.int (xs.length : Nat)))))
theorem sc_Reading_init : FnScope ["self", "data"] ["self", "data"] (defScope s_Reading_init) := ⟨rfl, rfl, rfl, by decide +kernel, rfl, by decide +kernel, by decide +kernel⟩
theorem sq_ins {H : Hp} {p q C dx : Addr} {fs fs' : List (Str × V)} {xs : List V} (hp : H p = some (.ins C dx fs)) (hq : SqL K H q xs) : SqL K (upd H p (.ins C dx fs')) q xs := by
  rcases hq with (h | ⟨ob, h⟩) | h
  · exact .inl (.inl (by rw [upd_ne (ne_of h hp (by intro e; cases e))]; exact h))
  · exact .inl (.inr ⟨ob, by rw [upd_ne (ne_of h hp (by intro e; cases e))]; exact h⟩)
  · exact .inr h
theorem ok_Reading_init (T : Txt K mg A) : FnOk P w K mg base CX0 1 A.f_Reading_init A.d_Reading_init ["self", "data"] (spRgI K A.c_Reading) := by
  refine T.F_Reading_init.ok sc_Reading_init (fun vs H Q E h => ?_) (fun cdv Ar outer s H vs Q E hr h => ?_)
  · obtain ⟨p, dx, q, xs, rfl, _⟩ := h
    rfl
  · obtain ⟨p, dx, q, xs, rfl, hp, hq, k⟩ := h
    refine ⟨_, pss_cons (ps_fld (pv 0) (pv 1) rfl) (pss_cons (ps_fld (pv 0) pe_int rfl) (pss_cons (ps_fld (pv 0) pe_int rfl) (pss_one (ps_fld (pv 0) (pe_callB call_len_seq (by rfl) T.z_len PySem.boot_len (pa_cons (pv 1) pa_nil)) rfl)))), ?_⟩
    refine ⟨_, rfl, _, rfl, p, A.c_Reading, dx, [], rfl, hp, T.l_Reading, T.n_Reading_data, (by show 0 < 1000; decide), ?_⟩
    refine ⟨_, rfl, p, A.c_Reading, dx, _, rfl, upd_same, T.l_Reading, T.n_Reading_place, (by show 1 < 1000; decide), ?_⟩
    rw [upd_upd]
    refine ⟨_, rfl, p, A.c_Reading, dx, _, rfl, upd_same, T.l_Reading, T.n_Reading_fault, (by show 2 < 1000; decide), ?_⟩
    rw [upd_upd]
    refine ⟨_, rfl, q, xs, rfl, .inl (sq_ins hp hq), _, rfl, p, A.c_Reading, dx, _, rfl, upd_same, T.l_Reading, T.n_Reading_fault_place, (by show 3 < 1000; decide), ?_⟩
    rw [upd_upd]
    exact k
def spStop (A : Adr) : Sp := fun vs H _ E => ∃ (p dx : Addr) (d pl f0 o0 : V) (k q : Nat), vs = [.ref p, .int (k : Nat), .int (q : Nat)] ∧ H p = some (.ins A.c_Reading dx (rgf d pl f0 o0)) ∧ E (.ref A.c_Faulty) none (upd H p (.ins A.c_Reading dx (rgf d pl (.int (k : Nat)) (.int (q : Nat)))))
theorem sc_Reading_stop_at : FnScope ["self", "fault", "place"] ["self", "fault", "place"] (defScope s_Reading_stop_at) := ⟨rfl, rfl, rfl, by decide +kernel, rfl, by decide +kernel, by decide +kernel⟩
theorem ok_Reading_stop_at (T : Txt K mg A) : FnOk P w K mg base (CX1 P w) 1 A.f_Reading_stop_at A.d_Reading_stop_at ["self", "fault", "place"] (spStop A) := by
  refine T.F_Reading_stop_at.okE sc_Reading_stop_at (fun vs H Q E h => ?_) (fun cdv Ar outer s H vs Q E hr h => ?_)
  · obtain ⟨p, dx, d, pl, f0, o0, k, q, rfl, _⟩ := h
    rfl
  · obtain ⟨p, dx, d, pl, f0, o0, k, q, rfl, hp, e⟩ := h
    refine ⟨_, pss_cons (ps_fld (pv 0) (pv 1) rfl) (pss_cons (ps_fld (pv 0) (pv 2) rfl) (pss_one (ps_raise rfl rfl T.m_Faulty T.x_Faulty.exc raise1))), ?_⟩
    refine ⟨_, rfl, _, rfl, p, A.c_Reading, dx, _, rfl, hp, T.l_Reading, T.n_Reading_fault, (by show 4 < 1000; decide), ?_⟩
    rw [rgf_fault]
    refine ⟨_, rfl, _, rfl, p, A.c_Reading, dx, _, rfl, upd_same, T.l_Reading, T.n_Reading_fault_place, (by show 4 < 1000; decide), ?_⟩
    rw [upd_upd, rgf_fp]
    exact e
def spEnd (K : PySem.W.Frag) (A : Adr) : Sp := fun vs H _ E => ∃ (p dx q : Addr) (pl f0 o0 : V) (xs : List V), vs = [.ref p] ∧ H p = some (.ins A.c_Reading dx (rgf (.ref q) pl f0 o0)) ∧ SqL K H q xs ∧ E (.ref A.c_Faulty) none (upd H p (.ins A.c_Reading dx (rgf (.ref q) pl (.int ((1 : Nat) : Int)) (.int (xs.length : Nat)))))
theorem sc_Reading_end_too_soon : FnScope ["self"] ["self"] (defScope s_Reading_end_too_soon) := ⟨rfl, rfl, rfl, by decide +kernel, rfl, by decide +kernel, by decide +kernel⟩
theorem ok_Reading_end_too_soon (T : Txt K mg A) : FnOk P w K mg base (CX1 P w) 2 A.f_Reading_end_too_soon A.d_Reading_end_too_soon ["self"] (spEnd K A) := by
  refine T.F_Reading_end_too_soon.okE sc_Reading_end_too_soon (fun vs H Q E h => ?_) (fun cdv Ar outer s H vs Q E hr h => ?_)
  · obtain ⟨p, dx, q, pl, f0, o0, xs, rfl, _⟩ := h
    rfl
  · obtain ⟨p, dx, q, pl, f0, o0, xs, rfl, hp, hq, e⟩ := h
    refine ⟨_, pss_one (ps_expr (pe_meth (pv 0) T.l_Reading T.e_Reading_stop_at (ok_Reading_stop_at T) hr T.b_Reading_stop_at .nil passes1 (pa_cons (pe_gi rfl T.g_ENDS_TOO_SOON) (pa_cons (pe_callB call_len_seq (by rfl) T.z_len PySem.boot_len (pa_cons (pe_fld (pv 0) rfl) pa_nil)) pa_nil)))), ?_⟩
    exact ⟨_, rfl, p, dx, _, rfl, hp, rfl, _, rfl, p, A.c_Reading, dx, _, _, rfl, hp, T.l_Reading, T.n_Reading_data, rfl, q, xs, rfl, .inl hq, p, dx, _, _, _, _, 1, xs.length, rfl, hp, e⟩
def spTake (K : PySem.W.Frag) (A : Adr) : Sp := fun vs H Q E => ∃ (R : Rg) (pl n : Nat), vs = [.ref R.r, .int (n : Nat)] ∧ RgI K H R ∧ RgS A.c_Reading H R pl ∧ Rres A H R (takeR R.B pl n) (fun b H' => ∀ D, H D = none → H' D = some (.lst (vN (bn b))) → Q (.ref D) H') E
theorem sc_Reading_take : FnScope ["self", "count", "begin"] ["self", "count"] (defScope s_Reading_take) := ⟨rfl, rfl, rfl, by decide +kernel, rfl, by decide +kernel, by decide +kernel⟩
theorem ok_Reading_take (T : Txt K mg A) : FnOk P w K mg base (CX1 P w) 3 A.f_Reading_take A.d_Reading_take ["self", "count"] (spTake K A) := by
  refine T.F_Reading_take.okE sc_Reading_take (fun vs H Q E h => ?_) (fun cdv Ar outer s H vs Q E hr h => ?_)
  · obtain ⟨R, pl, n, rfl, _⟩ := h
    rfl
  · obtain ⟨R, pl, n, rfl, hI, hx, k⟩ := h
    refine ⟨_, pss_cons (ps_set (i := 2) sc_Reading_take.nd rfl (Or.inl rfl) (pe_fld (pv 0) rfl))
      (pss_cons (ps_if (pt_cmpR op_gt (pe_op op_add (pv 2) (pv 1)) (pe_callB call_len_seq (by rfl) T.z_len PySem.boot_len (pa_cons (pe_fld (pv 0) rfl) pa_nil)) (nomark _)) (pss_one (ps_expr (pe_meth0 (pv 0) T.l_Reading T.e_Reading_end_too_soon (ok_Reading_end_too_soon T) hr T.b_Reading_end_too_soon .nil passes1))) pss_nil)
      (pss_cons (ps_fld (pv 0) (pe_op op_add (pv 2) (pv 1)) rfl)
      (pss_one (ps_ret (pe_slice sl_list (pe_fld (pv 0) rfl) (po_some (pv 2)) (po_some (pe_fld (pv 0) rfl))))))), ?_⟩
    have hq := hI.sq
    unfold RgS at hx
    refine ⟨_, rfl, R.r, A.c_Reading, R.dr, _, _, rfl, hx, T.l_Reading, T.n_Reading_place, rfl, ?_⟩
    refine ⟨_, rfl, _, rfl, _, _, rfl, rfl, _, rfl, R.r, A.c_Reading, R.dr, _, _, rfl, hx, T.l_Reading, T.n_Reading_data, rfl, R.q, _, rfl, .inl hq, _, _, rfl, rfl, _, rfl, ?_⟩
    rw [vN_len, bn_len]
    dsimp only
    rw [show ((pl : Nat) : Int) + ((n : Nat) : Int) = ((pl + n : Nat) : Int) by omega]
    unfold takeR Rres at k
    refine ite2 (fun c => ?_) fun c => ?_
    · have c : ((R.B.length : Nat) : Int) < ((pl + n : Nat) : Int) := of_decide_eq_true c
      rw [if_pos (by omega)] at k
      refine ⟨_, rfl, R.r, R.dr, _, rfl, hx, rfl, R.r, R.dr, R.q, _, _, _, _, rfl, hx, hq, k _ hide_put ⟨.int (pl : Nat), ?_⟩⟩
      rw [upd_same, vN_len, bn_len]
    · have c : ¬ ((R.B.length : Nat) : Int) < ((pl + n : Nat) : Int) := fun z => c (decide_eq_true z)
      rw [if_neg (by omega)] at k
      refine ⟨_, rfl, _, rfl, _, _, rfl, rfl, _, rfl, R.r, A.c_Reading, R.dr, _, rfl, hx, T.l_Reading, T.n_Reading_place, (by show 4 < 1000; decide), ?_⟩
      dsimp only
      rw [rgf_place, show ((pl : Nat) : Int) + ((n : Nat) : Int) = ((pl + n : Nat) : Int) by omega]
      refine ⟨_, rfl, R.r, A.c_Reading, R.dr, _, _, rfl, upd_same, T.l_Reading, T.n_Reading_data, rfl, _, rfl, _, rfl, _, rfl, R.r, A.c_Reading, R.dr, _, _, rfl, upd_same, T.l_Reading, T.n_Reading_place, rfl, _, rfl, R.q, _, rfl, sq_ins hx hq, fun D hD => ?_⟩
      have hDr : D ≠ R.r := fun z => by rw [z, upd_same] at hD; cases hD
      have hD0 : H D = none := by rw [upd_ne hDr] at hD; exact hD
      have s1 : Same (hide R.r H) (upd (upd H R.r (.ins A.c_Reading R.dr (rgf (.ref R.q) (.int ((pl + n : Nat) : Int)) (.int 0) (.int (R.B.length : Nat))))) D (.lst (cutV (vN (bn R.B)) (some ((pl : Nat) : Int)) (some ((pl + n : Nat) : Int))))) := hide_put.trans (same_new hD)
      refine k _ s1 ?_ D hD0 ?_
      · unfold RgS
        rw [upd_ne (Ne.symm hDr), upd_same]
      · rw [upd_same, vN_cut, show pl + n - pl = n by omega, bn_drop, bn_take]
def spNum (K : PySem.W.Frag) (A : Adr) : Sp := fun vs H Q E => ∃ (R : Rg) (pl n : Nat), vs = [.ref R.r, .int (n : Nat)] ∧ RgI K H R ∧ RgS A.c_Reading H R pl ∧ n ≤ 1000 ∧ Rres A H R (takeR R.B pl n) (fun b H' => Q (.int (Sound.fromHigh b : Nat)) H') E
theorem sc_Reading_number : FnScope ["self", "count"] ["self", "count"] (defScope s_Reading_number) := ⟨rfl, rfl, rfl, by decide +kernel, rfl, by decide +kernel, by decide +kernel⟩
theorem ok_Reading_number (T : Txt K mg A) : FnOk P w K mg base (CX1 P w) 4 A.f_Reading_number A.d_Reading_number ["self", "count"] (spNum K A) := by
  refine T.F_Reading_number.okE sc_Reading_number (fun vs H Q E h => ?_) (fun cdv Ar outer s H vs Q E hr h => ?_)
  · obtain ⟨R, pl, n, rfl, _⟩ := h
    rfl
  · obtain ⟨R, pl, n, rfl, hI, hx, hn, k⟩ := h
    have hr1' : Room 1 _ := hr.mono (by decide)
    refine ⟨_, pss_one (ps_ret (pe_call (ok_from_octets T) hr1' rfl T.m_from_octets T.F_from_octets.kp T.b_from_octets .nil pass0 (pa_cons (pe_meth (pv 0) T.l_Reading T.e_Reading_take (ok_Reading_take T) hr T.b_Reading_take .nil passes1 (pa_cons (pv 1) pa_nil)) pa_nil))), ?_⟩
    refine ⟨_, rfl, R.r, R.dr, _, rfl, hx, rfl, _, rfl, R, pl, n, rfl, hI, hx, ?_⟩
    unfold Rres takeR at k ⊢
    by_cases c : R.B.length < pl + n
    · rw [if_pos c] at k ⊢
      exact k
    · rw [if_neg c] at k ⊢
      dsimp only at k ⊢
      intro H' s' hS D hD hxD
      refine ⟨D, _, rfl, SqL.of hxD, (by rw [bn_len, List.length_take]; omega), bn_lt _, ?_⟩
      have e : fromN (bn ((R.B.drop pl).take n)) = Sound.fromHigh ((R.B.drop pl).take n) := (from_eq _).symm
      rw [e]
      exact k H' s' hS
def spSeal (K : PySem.W.Frag) (A : Adr) : Sp := fun vs H Q E => ∃ (R : Rg) (pl b f : Nat), vs = [.ref R.r, .int (b : Nat), .int (f : Nat)] ∧ RgI K H R ∧ RgS A.c_Reading H R pl ∧ Rres A H R (sealR R.B b pl f) (fun _ H' => Q .non H') E
theorem sc_Reading_seal : FnScope ["self", "begin", "fault", "place"] ["self", "begin", "fault"] (defScope s_Reading_seal) := ⟨rfl, rfl, rfl, by decide +kernel, rfl, by decide +kernel, by decide +kernel⟩
theorem ok_Reading_seal (T : Txt K mg A) : FnOk P w K mg base (CX1 P w) 5 A.f_Reading_seal A.d_Reading_seal ["self", "begin", "fault"] (spSeal K A) := by
  refine T.F_Reading_seal.okE sc_Reading_seal (fun vs H Q E h => ?_) (fun cdv Ar outer s H vs Q E hr h => ?_)
  · obtain ⟨R, pl, b, f, rfl, _⟩ := h
    rfl
  · obtain ⟨R, pl, b, f, rfl, hI, hx, k⟩ := h
    have hr1' : Room 1 _ := hr.mono (by decide)
    refine ⟨_, pss_cons (ps_set (i := 3) sc_Reading_seal.nd rfl (Or.inl rfl) (pe_fld (pv 0) rfl))
      (pss_one (ps_if (pt_cmpR op_ne (pe_meth (pv 0) T.l_Reading T.e_Reading_number (ok_Reading_number T) hr T.b_Reading_number .nil passes1 (pa_cons (pe_gi rfl T.g_CRC32_SIZE) pa_nil)) (pe_call (ok_crc32 T) hr1' rfl T.m_crc32 T.F_crc32.kp T.b_crc32 .nil pass0 (pa_cons (pe_slice sl_list (pe_fld (pv 0) rfl) (po_some (pv 1)) (po_some (pv 3))) pa_nil)) (nomark _))
        (pss_one (ps_expr (pe_meth (pv 0) T.l_Reading T.e_Reading_stop_at (ok_Reading_stop_at T) hr1' T.b_Reading_stop_at .nil passes1 (pa_cons (pv 2) (pa_cons (pv 3) pa_nil))))) pss_nil)), ?_⟩
    have hx' := hx
    unfold RgS at hx'
    refine ⟨_, rfl, R.r, A.c_Reading, R.dr, _, _, rfl, hx', T.l_Reading, T.n_Reading_place, rfl, ?_⟩
    refine ⟨_, rfl, R.r, R.dr, _, rfl, hx', rfl, R, pl, 4, rfl, hI, hx, by decide, ?_⟩
    unfold Rres sealR at k
    unfold Rres takeR
    by_cases c : R.B.length < pl + 4
    · rw [if_pos c] at k ⊢
      exact k
    · rw [if_neg c] at k ⊢
      dsimp only
      intro H1 s1 hS
      have hS' := hS
      unfold RgS at hS'
      refine ⟨_, rfl, R.r, A.c_Reading, R.dr, _, _, rfl, hS', T.l_Reading, T.n_Reading_data, rfl, _, rfl, _, rfl, _, rfl, _, rfl, R.q, _, rfl, (hI.go s1).sq, fun p hp => ?_⟩
      rw [vN_cut, bn_drop, bn_take]
      have s2 := same_new (o := .lst (vN (bn ((R.B.drop b).take (pl - b))))) hp
      have hS2 := s2 _ _ hS'
      refine ⟨p, _, rfl, SqL.of upd_same, bn_lt _, rfl, _, rfl, ?_⟩
      have ec : crcN (bn ((R.B.drop b).take (pl - b))) = Sound.crc32 ((R.B.drop b).take (pl - b)) := crc32_eq _
      rw [ec]
      generalize upd H1 p (.lst (vN (bn ((R.B.drop b).take (pl - b))))) = H2 at *
      by_cases c2 : Sound.fromHigh ((R.B.drop pl).take 4) = Sound.crc32 ((R.B.drop b).take (pl - b))
      · rw [decide_eq_true (by rw [c2])]
        rw [if_neg (fun z => z c2)] at k
        exact iteF (k H2 (s1.trans s2) hS2)
      · rw [decide_eq_false (fun z => c2 (by have := V.int.inj z; omega))]
        rw [if_pos c2] at k
        refine iteT ⟨_, rfl, R.r, R.dr, _, rfl, hS2, rfl, _, rfl, _, rfl, R.r, R.dr, _, _, _, _, f, pl, rfl, hS2, k _ (hide_step (s1.trans s2) hide_put) ⟨_, upd_same⟩⟩
def tgf (a b : V) : List (Str × V) := [("key", a), ("value", b)]
def spTgI (C : Addr) : Sp := fun vs H Q _ => ∃ (p dx : Addr) (a b : V), vs = [.ref p, a, b] ∧ H p = some (.ins C dx []) ∧ Q .non (upd H p (.ins C dx (tgf a b)))
theorem sc_Tag_init : FnScope ["self", "key", "value"] ["self", "key", "value"] (defScope s_Tag_init) := ⟨rfl, rfl, rfl, by decide +kernel, rfl, by decide +kernel, by decide +kernel⟩
theorem ok_Tag_init (T : Txt K mg A) : FnOk P w K mg base CX0 1 A.f_Tag_init A.d_Tag_init ["self", "key", "value"] (spTgI A.c_Tag) := by
  refine T.F_Tag_init.ok sc_Tag_init (fun vs H Q E h => ?_) (fun cdv Ar outer s H vs Q E hr h => ?_)
  · obtain ⟨p, dx, a, b, rfl, _⟩ := h
    rfl
  · obtain ⟨p, dx, a, b, rfl, hp, k⟩ := h
    refine ⟨_, pss_cons (ps_fld (pv 0) (pv 1) rfl) (pss_one (ps_fld (pv 0) (pv 2) rfl)), ?_⟩
    refine ⟨_, rfl, _, rfl, p, A.c_Tag, dx, [], rfl, hp, T.l_Tag, T.n_Tag_key, (by show 0 < 1000; decide), ?_⟩
    refine ⟨_, rfl, _, rfl, p, A.c_Tag, dx, _, rfl, upd_same, T.l_Tag, T.n_Tag_value, (by show 1 < 1000; decide), ?_⟩
    rw [upd_upd]
    exact k
def kB (n : Nat) : Bool := decide (33 ≤ n) && (decide (n ≤ 126) && n != 61)
theorem mayKey_eq (b : Sound.Bytes) : Sound.mayKey b = (bn b).all kB := by
  unfold Sound.mayKey bn
  rw [List.all_map]
  congr 1
  funext c
  unfold kB
  show _ = (decide (33 ≤ c.toNat) && (decide (c.toNat ≤ 126) && c.toNat != 61))
  congr 2
  by_cases h : c = 61
  · subst h; rfl
  · have h2 : ¬ c.toNat = 61 := fun z => h (UInt8.toNat_inj.mp z)
    rw [show (c != 61) = true from bne_iff_ne.mpr h, show (c.toNat != 61) = true from bne_iff_ne.mpr h2]
def spKey (K : PySem.W.Frag) : Sp := fun vs H Q _ => ∃ (q : Addr) (b : Sound.Bytes), vs = [.ref q] ∧ SqL K H q (vN (bn b)) ∧ b.length ≤ 1000 ∧ ∀ H', Same H H' → Q (.bl (Sound.mayKey b)) H'
theorem sc_can_be_key : FnScope ["key", "byte"] ["key"] (defScope s_can_be_key) := ⟨rfl, rfl, rfl, by decide +kernel, rfl, by decide +kernel, by decide +kernel⟩
theorem ok_can_be_key (T : Txt K mg A) : FnOk P w K mg base CX0 1 A.f_can_be_key A.d_can_be_key ["key"] (spKey K) := by
  refine T.F_can_be_key.ok sc_can_be_key (fun vs H Q E h => ?_) (fun cdv Ar outer s H vs Q E hr h => ?_)
  · obtain ⟨q, b, rfl, _⟩ := h
    rfl
  · obtain ⟨q, b, rfl, hq, hl, k⟩ := h
    refine ⟨_, pss_one (ps_ret (pe_callB (cr_all rfl) rfl T.z_all (by decide +kernel : bootBuiltins "all" = some (.builtin "all")) (pa_cons (pe_lc (own := [("byte", 1)]) rfl sc_can_be_key.nd (pi_list (pv 0)) (blkOk_by (by kernel_rfl)) (fun _ _ _ _ _ => pg_name (i := 1) sc_can_be_key.nd rfl (Or.inl rfl)) (fun _ _ _ _ _ => pts_nil)
      (fun _ _ _ _ _ => pe_and (pe_chain op_le op_le pe_int (pv 1) pe_int) (pe_one (pe_cmpR op_ne (pv 1) (pe_gi rfl T.g_EQUALS_SIGN) (nomark _))))) pa_nil))), ?_⟩
    refine ⟨_, rfl, q, rfl, ⟨_, hq⟩, fun D hD => ?_⟩
    refine lc_val (J := Itl K q) hD (bn b).length (by rw [bn_len, sizeLine_eq]; omega) (fun i => .bl (kB ((bn b).getD i 0))) (fun i Hh hi t1 => ⟨_, _, t1.seq hq, vN_get hi⟩) (fun Hh t1 => ⟨_, t1.seq hq, by rw [vN_len]; exact Nat.le_refl _⟩) ?_ ?_
    · rintro i Hh z H' hi t1 ⟨rfl, hz⟩ C hC
      obtain ⟨rfl, _⟩ := vN_get' (hz _ (t1.seq hq))
      have hC := hC _ (Same.refl _)
      generalize (bn b).getD i 0 = c at *
      refine ⟨rfl, _, rfl, _, _, rfl, rfl, _, rfl, ?_⟩
      unfold kB at hC
      by_cases c1 : 33 ≤ c
      · rw [decide_eq_true c1, Bool.true_and] at hC
        rw [decide_eq_true (show (33 : Int) ≤ ((c : Nat) : Int) by omega)]
        refine iteT ⟨_, _, rfl, rfl, _, rfl, ?_⟩
        by_cases c2 : c ≤ 126
        · rw [decide_eq_true c2, Bool.true_and] at hC
          rw [decide_eq_true (show ((c : Nat) : Int) ≤ 126 by omega)]
          refine iteT ⟨_, rfl, rfl, ?_⟩
          have e : (!decide (V.int ((c : Nat) : Int) = V.int 61)) = (c != 61) := by
            by_cases c3 : c = 61
            · subst c3; rfl
            · rw [decide_eq_false (fun z => c3 (by have := V.int.inj z; omega)), show (c != 61) = true from bne_iff_ne.mpr c3]; rfl
          rw [e]
          exact hC
        · rw [decide_eq_false c2, Bool.false_and] at hC
          rw [decide_eq_false (show ¬ ((c : Nat) : Int) ≤ 126 by omega)]
          exact iteF hC
      · rw [decide_eq_false c1, Bool.false_and] at hC
        rw [decide_eq_false (show ¬ (33 : Int) ≤ ((c : Nat) : Int) by omega)]
        exact iteF ⟨_, rfl, iteF hC⟩
    · intro H2 s2 hx2
      have e : (List.range (bn b).length).map (fun i => V.bl (kB ((bn b).getD i 0))) = ((bn b).map kB).map V.bl := by
        rw [List.map_map]
        refine List.ext_getElem (by simp) fun i h1 h2 => ?_
        simp at h1
        simp [List.getD_eq_getElem?_getD, List.getElem?_eq_getElem h1]
      rw [e] at hx2
      refine ⟨D, _, rfl, SqL.of hx2, ?_⟩
      have e2 : ((bn b).map kB).all id = Sound.mayKey b := by rw [mayKey_eq, List.all_map]; rfl
      rw [e2]
      exact k H2 s2
def valOf (t : Sound.Bytes) : Sound.Bytes := t.drop ((Sound.keyOf t).length + 3)
def IsTg (C : Addr) (H : Hp) (x : Addr) (t : Sound.Bytes) : Prop := ∃ dx a b, H x = some (.ins C dx (tgf (.ref a) (.ref b))) ∧ H a = some (.lst (vN (bn (Sound.keyOf t)))) ∧ H b = some (.lst (vN (bn (valOf t))))
theorem IsTg.same {C : Addr} {H H' : Hp} {x : Addr} {t : Sound.Bytes} (h : IsTg C H x t) (s : Same H H') : IsTg C H' x t := by
  obtain ⟨dx, a, b, h1, h2, h3⟩ := h
  exact ⟨dx, a, b, s _ _ h1, s _ _ h2, s _ _ h3⟩
def TgsI (C : Addr) (H : Hp) (r D : Addr) (l : List Sound.Bytes) : Prop := ∃ as : List Addr, hide r H D = some (.lst (as.map V.ref)) ∧ as.length = l.length ∧ ∀ (k : Nat) (a : Addr), as[k]? = some a → IsTg C (hide D (hide r H)) a (l.getD k [])
theorem TgsI.go {C : Addr} {H H' : Hp} {r D : Addr} {l : List Sound.Bytes} (h : TgsI C H r D l) (s : Same (hide r H) H') : TgsI C H' r D l := by
  obtain ⟨as, h1, h2, h3⟩ := h
  exact ⟨as, hide_go s _ _ h1, h2, fun k a e => (h3 k a e).same (hide_mono (hide_go s))⟩
def tagOne (at_ n : Nat) (seen : List Sound.Bytes) (b : Sound.Bytes) : Sound.Stand ⊕ Nat :=
  if n = 0 then .inl (.fault 5 at_) else if b.length < 1 then .inl .more else
  let m := Sound.fromHigh (b.take 1)
  if m = 0 ∨ 32 < m ∨ n < m + 3 then .inl (.fault 5 at_)
  else if b.length < 1 + m then .inl .more
  else if (Sound.mayKey ((b.drop 1).take m) && !(seen.any fun (x : Sound.Bytes) => Sound.keyOf x == (b.drop 1).take m)) = false then .inl (.fault 5 at_)
  else if b.length < m + 3 then .inl .more
  else
    let v := Sound.fromHigh ((b.drop (1 + m)).take 2)
    if n < m + 3 + v then .inl (.fault 5 at_) else if b.length < m + 3 + v then .inl .more else .inr (m + 3 + v)
theorem from1 (c : UInt8) (r : Sound.Bytes) : Sound.fromHigh ((c :: r).take 1) = c.toNat := by
  rw [from_eq]
  show 256 * 0 + c.toNat = _
  omega
theorem tagItems_one (k at_ n : Nat) (seen : List Sound.Bytes) (b : Sound.Bytes) : Sound.tagItems (k + 1) at_ n seen b = match tagOne at_ n seen b with
    | .inl s => (seen, .inl s)
    | .inr z => Sound.tagItems k (at_ + z) (n - z) (seen ++ [b.take z]) (b.drop z) := by
  conv => lhs; unfold Sound.tagItems
  unfold tagOne
  by_cases h0 : n = 0
  · rw [if_pos h0, if_pos h0]
  · rw [if_neg h0, if_neg h0]
    cases b with
    | nil => rfl
    | cons c r =>
      rw [if_neg (by simp)]
      simp only [from1]
      split
      · rfl
      · split
        · rfl
        · split
          · rfl
          · split
            · rfl
            · split
              · rfl
              · split
                · rfl
                · simp only [Nat.add_assoc]
def stOf (len : Nat) : Sound.Stand → Nat × Nat
  | .more => (1, len)
  | .whole => (0, len)
  | .fault k p => (k, p)
theorem cut_in {B : Sound.Bytes} {pl N i j : Nat} (h : i + j ≤ N) : (((B.drop pl).take N).drop i).take j = (B.drop (pl + i)).take j := by
  rw [List.drop_take, List.take_take, List.drop_drop, Nat.min_eq_left (by omega)]
theorem len_in' {B : Sound.Bytes} {pl N j : Nat} (h : j ≤ N) (hp : pl ≤ B.length) : ((B.drop pl).take N).length < j ↔ B.length < pl + j := by
  rw [List.length_take, List.length_drop]
  omega
def TagOut (A : Adr) (H : Hp) (R : Rg) (D : Addr) (pl : Nat) (seen : List Sound.Bytes) (b : Sound.Bytes) (o : Sound.Stand ⊕ Nat) (Q : VK) (E : XK) : Prop := match o with
  | .inl st => ∀ H', Same (hide D (hide R.r H)) H' → RgF A.c_Reading H' R (stOf R.B.length st).1 (stOf R.B.length st).2 → TgsI A.c_Tag H' R.r D seen → E (.ref A.c_Faulty) none H'
  | .inr z => ∀ H', Same (hide D (hide R.r H)) H' → RgS A.c_Reading H' R (pl + z) → TgsI A.c_Tag H' R.r D (seen ++ [b.take z]) → Q .non H'
def spRTag (K : PySem.W.Frag) (A : Adr) : Sp := fun vs H Q E => ∃ (R : Rg) (D : Addr) (pl n : Nat) (seen : List Sound.Bytes), vs = [.ref R.r, .int ((pl + n : Nat) : Int), .ref D] ∧ RgI K H R ∧ RgS A.c_Reading H R pl ∧ TgsI A.c_Tag H R.r D seen ∧ (pl ≤ R.B.length ∧ seen.length ≤ 100000) ∧
  TagOut A H R D pl seen ((R.B.drop pl).take (n + 4)) (tagOne pl n seen ((R.B.drop pl).take (n + 4))) Q E
theorem sc_read_tag : FnScope ["reading", "end", "tags", "begin", "key_size", "key", "value_size", "tag"] ["reading", "end", "tags"] (defScope s_read_tag) := ⟨rfl, rfl, rfl, by decide +kernel, rfl, by decide +kernel, by decide +kernel⟩
theorem bn_inj {a c : Sound.Bytes} (z : bn a = bn c) : a = c := by
  unfold bn at z
  exact (List.map_inj_right fun _ _ => UInt8.toNat_inj.mp).mp z
theorem bnI_inj {a c : Sound.Bytes} : ((bn a).map (fun (n : Nat) => (n : Int)) = (bn c).map fun (n : Nat) => (n : Int)) ↔ a = c := by
  constructor
  · intro z
    exact bn_inj ((List.map_inj_right fun _ _ h => Int.ofNat.inj h).mp z)
  · rintro rfl; rfl
theorem ok_read_tag (T : Txt K mg A) : FnOk P w K mg base (CX1 P w) 6 A.f_read_tag A.d_read_tag ["reading", "end", "tags"] (spRTag K A) := by
  refine T.F_read_tag.okE sc_read_tag (fun vs H Q E h => ?_) (fun cdv Ar outer s H vs Q E hr h => ?_)
  · obtain ⟨R, D, pl, n, seen, rfl, _⟩ := h
    rfl
  · obtain ⟨R, D, pl, n, seen, rfl, hI, hx, ht, ⟨hplB, hseen⟩, k⟩ := h
    have hr1' : Room 1 _ := hr.mono (by decide)
    have hr2' : Room 2 _ := hr.mono (by decide)
    have hr3' : Room 3 _ := hr.mono (by decide)
    have hr4' : Room 4 _ := hr.mono (by decide)
    refine ⟨_, pss_cons (ps_set (i := 3) sc_read_tag.nd rfl (Or.inl rfl) (pe_fld (pv 0) rfl))
      (pss_cons (ps_if (pt_cmpR op_eq (pv 3) (pv 1) (nomark _)) (pss_one (ps_expr (pe_meth (pv 0) T.l_Reading T.e_Reading_stop_at (ok_Reading_stop_at T) hr1' T.b_Reading_stop_at .nil passes1 (pa_cons (pe_gi rfl T.g_BAD_TAGS) (pa_cons (pv 3) pa_nil))))) pss_nil)
      (pss_cons (ps_set (i := 4) sc_read_tag.nd rfl (Or.inl rfl) (pe_meth (pv 0) T.l_Reading T.e_Reading_number (ok_Reading_number T) hr4' T.b_Reading_number .nil passes1 (pa_cons pe_int pa_nil)))
      (pss_cons (ps_if (PW.pt (pw_or (pt_not (pt_chain op_le op_le pe_int (pv 4) (pe_gi rfl T.g_LONGEST_KEY))) (pw_or1 (pt_cmpR op_gt (pe_op op_add (pe_op op_add (pe_fld (pv 0) rfl) (pv 4)) (pe_gi rfl T.g_VALUE_LENGTH_SIZE)) (pv 1) (nomark _))))) (pss_one (ps_expr (pe_meth (pv 0) T.l_Reading T.e_Reading_stop_at (ok_Reading_stop_at T) hr1' T.b_Reading_stop_at .nil passes1 (pa_cons (pe_gi rfl T.g_BAD_TAGS) (pa_cons (pv 3) pa_nil))))) pss_nil)
      (pss_cons (ps_set (i := 5) sc_read_tag.nd rfl (Or.inr rfl) (pe_meth (pv 0) T.l_Reading T.e_Reading_take (ok_Reading_take T) hr3' T.b_Reading_take .nil passes1 (pa_cons (pv 4) pa_nil)))
      (pss_cons (ps_if (PW.pt (pw_or (pt_not (pt_val (pe_call (ok_can_be_key T) hr1' rfl T.m_can_be_key T.F_can_be_key.kp T.b_can_be_key .nil pass0 (pa_cons (pv 5) pa_nil)))) (pw_or1 (pt_val (pe_callB (cr_any rfl) rfl T.z_any (by decide +kernel : bootBuiltins "any" = some (.builtin "any")) (pa_cons (pe_lc (own := [("tag", 7)]) rfl sc_read_tag.nd (pi_list (pv 2)) (blkOk_by (by kernel_rfl)) (fun _ _ _ _ _ => pg_name (i := 7) sc_read_tag.nd rfl (Or.inl rfl)) (fun _ _ _ _ _ => pts_nil)
          (fun _ _ _ _ _ => pe_cmpR (eqLK (K := K) rfl hr.units) (pfldK (K := K) rfl (pv 7) rfl) (pv 5) (nomark _))) pa_nil)))))) (pss_one (ps_expr (pe_meth (pv 0) T.l_Reading T.e_Reading_stop_at (ok_Reading_stop_at T) hr1' T.b_Reading_stop_at .nil passes1 (pa_cons (pe_gi rfl T.g_BAD_TAGS) (pa_cons (pv 3) pa_nil))))) pss_nil)
      (pss_cons (ps_set (i := 6) sc_read_tag.nd rfl (Or.inl rfl) (pe_meth (pv 0) T.l_Reading T.e_Reading_number (ok_Reading_number T) hr4' T.b_Reading_number .nil passes1 (pa_cons (pe_gi rfl T.g_VALUE_LENGTH_SIZE) pa_nil)))
      (pss_cons (ps_if (pt_cmpR op_gt (pe_op op_add (pe_fld (pv 0) rfl) (pv 6)) (pv 1) (nomark _)) (pss_one (ps_expr (pe_meth (pv 0) T.l_Reading T.e_Reading_stop_at (ok_Reading_stop_at T) hr1' T.b_Reading_stop_at .nil passes1 (pa_cons (pe_gi rfl T.g_BAD_TAGS) (pa_cons (pv 3) pa_nil))))) pss_nil)
      (pss_one (ps_expr (pe_bm PySem.F.plainAttrs_list PySem.F.slot_list_append PySem.F.type_list_append mt_append (pv 2) (pa_cons (pe_make T.k_Tag (ok_Tag_init T) hr2' rfl T.m_Tag T.b_Tag_init .nil pass0 (pa_cons (pv 5) (pa_cons (pe_meth (pv 0) T.l_Reading T.e_Reading_take (ok_Reading_take T) hr3' T.b_Reading_take .nil passes1 (pa_cons (pv 6) pa_nil)) pa_nil))) pa_nil))))))))))), ?_⟩
    generalize hb : (R.B.drop pl).take (n + 4) = b at *
    have hblen : ∀ j, j ≤ n + 4 → (b.length < j ↔ R.B.length < pl + j) := fun j hj => by rw [← hb]; exact len_in' hj hplB
    have hcut : ∀ i j, i + j ≤ n + 4 → (b.drop i).take j = (R.B.drop (pl + i)).take j := fun i j hj => by rw [← hb]; exact cut_in hj
    unfold tagOne at k
    have stop : ∀ (H1 : Hp) (p1 : Nat), Same (hide R.r H) H1 → RgS A.c_Reading H1 R p1 → (∀ H', Same (hide D (hide R.r H)) H' → RgF A.c_Reading H' R 5 pl → TgsI A.c_Tag H' R.r D seen → E (.ref A.c_Faulty) none H') →
        E (.ref A.c_Faulty) none (upd H1 R.r (.ins A.c_Reading R.dr (rgf (.ref R.q) (.int (p1 : Nat)) (.int ((5 : Nat) : Int)) (.int (pl : Nat))))) := fun H1 p1 s1 h1 kk => by
      have s2 : Same (hide R.r H) (upd H1 R.r (.ins A.c_Reading R.dr (rgf (.ref R.q) (.int (p1 : Nat)) (.int ((5 : Nat) : Int)) (.int (pl : Nat))))) := hide_step s1 hide_put
      exact kk _ ((hide_same D _).trans s2) ⟨_, upd_same⟩ (ht.go s2)
    have hx' := hx
    unfold RgS at hx'
    refine ⟨_, rfl, R.r, A.c_Reading, R.dr, _, _, rfl, hx', T.l_Reading, T.n_Reading_place, rfl, ?_⟩
    refine ⟨_, rfl, _, rfl, rfl, _, rfl, ?_⟩
    by_cases c0 : n = 0
    · rw [decide_eq_true (by rw [c0]; rfl)]
      rw [if_pos c0] at k
      exact iteT ⟨_, rfl, R.r, R.dr, _, rfl, hx', rfl, _, rfl, R.r, R.dr, _, _, _, _, 5, pl, rfl, hx', stop H pl (hide_of (Same.refl _)) hx k⟩
    rw [decide_eq_false (fun z => c0 (by have := V.int.inj z; omega)), if_neg c0] at *
    refine iteF ⟨_, rfl, R.r, R.dr, _, rfl, hx', rfl, R, pl, 1, rfl, hI, hx, by decide, ?_⟩
    unfold Rres takeR
    by_cases c1 : R.B.length < pl + 1
    · rw [if_pos c1]
      rw [if_pos ((hblen 1 (by omega)).mpr c1)] at k
      exact fun H' s' hF => k H' ((hide_same D _).trans s') hF (ht.go s')
    rw [if_neg c1]
    rw [if_neg (fun z => c1 ((hblen 1 (by omega)).mp z))] at k
    dsimp only at k ⊢
    intro H1 s1 hS1
    have e1 : (R.B.drop pl).take 1 = b.take 1 := by
      have := hcut 0 1 (by omega)
      rw [List.drop_zero, Nat.add_zero] at this
      exact this.symm
    rw [e1]
    have hm256 : Sound.fromHigh (b.take 1) < 256 := by
      rw [from_eq]
      have h1 := fromN_lt (l := (b.take 1).map UInt8.toNat) (fun x hx => bn_lt (b.take 1) x hx)
      have h2 : 256 ^ ((b.take 1).map UInt8.toNat).length ≤ 256 ^ 1 := Nat.pow_le_pow_right (by decide) (by rw [List.length_map, List.length_take]; omega)
      omega
    generalize hm : Sound.fromHigh (b.take 1) = m at *
    have hS1' := hS1
    unfold RgS at hS1'
    have I1 := hI.go s1
    refine ⟨_, rfl, _, _, rfl, rfl, _, rfl, ?_⟩
    have bad1 : (m = 0 ∨ 32 < m ∨ n < m + 3) → ∀ H', Same (hide D (hide R.r H)) H' → RgF A.c_Reading H' R 5 pl → TgsI A.c_Tag H' R.r D seen → E (.ref A.c_Faulty) none H' := fun c => by
      rw [if_pos c] at k
      exact k
    by_cases c2 : (1 : Int) ≤ ((m : Nat) : Int)
    case neg =>
      rw [decide_eq_false c2]
      exact iteF ⟨_, rfl, iteT (iteT ⟨_, rfl, R.r, R.dr, _, rfl, hS1', rfl, _, rfl, R.r, R.dr, _, _, _, _, 5, pl, rfl, hS1', stop H1 _ s1 hS1 (bad1 (.inl (by omega)))⟩)⟩
    rw [decide_eq_true c2]
    refine iteT ⟨_, _, rfl, rfl, _, rfl, ?_⟩
    by_cases c3 : ((m : Nat) : Int) ≤ 32
    case neg =>
      rw [decide_eq_false c3]
      exact iteT (iteT ⟨_, rfl, R.r, R.dr, _, rfl, hS1', rfl, _, rfl, R.r, R.dr, _, _, _, _, 5, pl, rfl, hS1', stop H1 _ s1 hS1 (bad1 (.inr (.inl (by omega))))⟩)
    rw [decide_eq_true c3]
    refine iteF ⟨_, rfl, R.r, A.c_Reading, R.dr, _, _, rfl, hS1', T.l_Reading, T.n_Reading_place, rfl, _, rfl, _, _, rfl, rfl, _, _, rfl, rfl, _, rfl, _, _, rfl, rfl, _, rfl, ?_⟩
    dsimp only
    refine ite2 (fun c4 => ?_) fun c4 => ?_
    · have c4 : ((pl + n : Nat) : Int) < ((pl + 1 : Nat) : Int) + ((m : Nat) : Int) + 2 := of_decide_eq_true c4
      exact ⟨_, rfl, R.r, R.dr, _, rfl, hS1', rfl, _, rfl, R.r, R.dr, _, _, _, _, 5, pl, rfl, hS1', stop H1 _ s1 hS1 (bad1 (.inr (.inr (by omega))))⟩
    have c4 : ¬ ((pl + n : Nat) : Int) < ((pl + 1 : Nat) : Int) + ((m : Nat) : Int) + 2 := fun z => c4 (decide_eq_true z)
    rw [if_neg (by rintro (z | z | z) <;> omega)] at k
    refine ⟨_, rfl, R.r, R.dr, _, rfl, hS1', rfl, _, rfl, R, pl + 1, m, rfl, I1, hS1, ?_⟩
    unfold Rres takeR
    by_cases c5 : R.B.length < pl + 1 + m
    · rw [if_pos c5]
      rw [if_pos ((hblen (1 + m) (by omega)).mpr (by omega))] at k
      exact fun H' s' hF => k H' ((hide_same D _).trans (hide_step s1 s')) hF (ht.go (hide_step s1 s'))
    rw [if_neg c5]
    rw [if_neg (fun z => c5 (by have := (hblen (1 + m) (by omega)).mp z; omega))] at k
    dsimp only
    intro H2 s2 hS2 Dk hDk hDkx
    rw [← hcut 1 m (by omega)] at hDkx
    have s12 := hide_step s1 s2
    have hDkr : Dk ≠ R.r := fun z => by rw [z, hS1'] at hDk; cases hDk
    generalize hkey : (b.drop 1).take m = key at *
    have hkl : key.length = m := by
      rw [← hkey, List.length_take, List.length_drop]
      have := (hblen (1 + m) (by omega))
      omega
    refine ⟨_, rfl, Dk, key, rfl, SqL.of hDkx, by omega, fun H3 s3 => ⟨_, rfl, ?_⟩⟩
    have hS3 : RgS A.c_Reading H3 R (pl + 1 + m) := s3 _ _ hS2
    have hS3' := hS3
    unfold RgS at hS3'
    have s13 : Same (hide R.r H) H3 := s12.trans s3
    have hDk3 := s3 _ _ hDkx
    have bad2 : (Sound.mayKey key && !(seen.any fun (x : Sound.Bytes) => Sound.keyOf x == key)) = false → ∀ H', Same (hide D (hide R.r H)) H' → RgF A.c_Reading H' R 5 pl → TgsI A.c_Tag H' R.r D seen → E (.ref A.c_Faulty) none H' := fun c => by
      rw [if_pos c] at k
      exact k
    cases c6 : Sound.mayKey key with
    | false =>
      exact iteT (iteT ⟨_, rfl, R.r, R.dr, _, rfl, hS3', rfl, _, rfl, R.r, R.dr, _, _, _, _, 5, pl, rfl, hS3', stop H3 _ s13 hS3 (bad2 (by rw [c6]; rfl))⟩)
    | true =>
    refine iteF ?_
    obtain ⟨as, ht1, ht2, ht3⟩ := ht.go s13
    have hD3 : H3 D = some (.lst (as.map V.ref)) := (hide_some ht1).1
    have hDr : D ≠ R.r := (hide_some ht1).2
    refine ⟨_, rfl, D, rfl, ⟨_, SqL.of hD3⟩, fun D4 hD4 => ?_⟩
    refine lc_val (J := Itl K D) hD4 seen.length (by rw [sizeLine_eq]; omega) (fun i => .bl (Sound.keyOf (seen.getD i []) == key)) (fun i Hh hi t1 => ?_) (fun Hh t1 => ⟨_, t1.seq (SqL.of hD3), by rw [List.length_map]; omega⟩) ?_ ?_
    · obtain ⟨a, ha1, _⟩ := ref_get (as := as) (i := i) (by omega)
      exact ⟨_, _, t1.seq (SqL.of hD3), ha1⟩
    · rintro i Hh z H' hi t1 ⟨rfl, hz⟩ C hC
      obtain ⟨a, rfl, ha⟩ := ref_get' (hz _ (t1.seq (SqL.of hD3)))
      obtain ⟨da, ka, va, hq1, hq2, hq3⟩ := ((ht3 i a ha).same ((hide_same _ _).trans (hide_same _ _))).same t1
      refine ⟨rfl, _, rfl, a, A.c_Tag, da, _, _, rfl, hq1, T.l_Tag, T.n_Tag_key, rfl, _, rfl, ka, Dk, (bn (Sound.keyOf (seen.getD i []))).map (fun (n : Nat) => (n : Int)), (bn key).map (fun (n : Nat) => (n : Int)), rfl, rfl, (by rw [← vN_int]; exact SqL.of hq2), (by rw [← vN_int]; exact SqL.of (t1 _ _ hDk3)), ?_⟩
      have e : decide ((bn (Sound.keyOf (seen.getD i []))).map (fun (n : Nat) => (n : Int)) = (bn key).map fun (n : Nat) => (n : Int)) = (Sound.keyOf (seen.getD i []) == key) := by
        by_cases c : Sound.keyOf (seen.getD i []) = key
        · rw [decide_eq_true (bnI_inj.mpr c), beq_iff_eq.mpr c]
        · rw [decide_eq_false (fun z => c (bnI_inj.mp z)), beq_eq_false_iff_ne.mpr c]
      rw [e]
      exact hC _ (Same.refl _)
    · intro H4 s4 hx4
      have ebs : (List.range seen.length).map (fun i => V.bl (Sound.keyOf (seen.getD i []) == key)) = (seen.map fun x => Sound.keyOf x == key).map V.bl := by
        rw [List.map_map]
        refine List.ext_getElem (by simp) fun i h1 h2 => ?_
        simp at h1
        simp [List.getD_eq_getElem?_getD, List.getElem?_eq_getElem h1]
      rw [ebs] at hx4
      refine ⟨D4, _, rfl, SqL.of hx4, _, rfl, ?_⟩
      have eany : (seen.map fun x => Sound.keyOf x == key).any id = seen.any fun x => Sound.keyOf x == key := by rw [List.any_map]; rfl
      rw [eany]
      have s14 : Same (hide R.r H) H4 := s13.trans s4
      have hS4 : RgS A.c_Reading H4 R (pl + 1 + m) := s4 _ _ hS3
      have hS4' := hS4
      unfold RgS at hS4'
      cases c7 : seen.any fun x => Sound.keyOf x == key with
      | true =>
        exact iteT ⟨_, rfl, R.r, R.dr, _, rfl, hS4', rfl, _, rfl, R.r, R.dr, _, _, _, _, 5, pl, rfl, hS4', stop H4 _ s14 hS4 (bad2 (by rw [c6, c7]; rfl))⟩
      | false =>
        refine iteF ?_
        rw [if_neg (by rw [c6, c7]; decide)] at k
        refine ⟨_, rfl, R.r, R.dr, _, rfl, hS4', rfl, R, pl + 1 + m, 2, rfl, hI.go s14, hS4, by decide, ?_⟩
        unfold Rres takeR
        by_cases c8 : R.B.length < pl + 1 + m + 2
        · rw [if_pos c8]
          rw [if_pos ((hblen (m + 3) (by omega)).mpr (by omega))] at k
          exact fun H' s' hF => k H' ((hide_same D _).trans (hide_step s14 s')) hF (ht.go (hide_step s14 s'))
        rw [if_neg c8]
        rw [if_neg (fun z => c8 (by have := (hblen (m + 3) (by omega)).mp z; omega))] at k
        dsimp only at k ⊢
        intro H5 s5 hS5
        have e5 : (R.B.drop (pl + 1 + m)).take 2 = (b.drop (1 + m)).take 2 := by rw [hcut (1 + m) 2 (by omega), Nat.add_assoc]
        rw [e5]
        generalize Sound.fromHigh ((b.drop (1 + m)).take 2) = v at *
        have s15 := hide_step s14 s5
        have hS5' := hS5
        unfold RgS at hS5'
        refine ⟨_, rfl, R.r, A.c_Reading, R.dr, _, _, rfl, hS5', T.l_Reading, T.n_Reading_place, rfl, _, rfl, _, _, rfl, rfl, _, rfl, _, _, rfl, rfl, _, rfl, ?_⟩
        dsimp only
        refine ite2 (fun c9 => ?_) fun c9 => ?_
        · have c9 : ((pl + n : Nat) : Int) < ((pl + 1 + m + 2 : Nat) : Int) + ((v : Nat) : Int) := of_decide_eq_true c9
          rw [if_pos (by omega)] at k
          exact ⟨_, rfl, R.r, R.dr, _, rfl, hS5', rfl, _, rfl, R.r, R.dr, _, _, _, _, 5, pl, rfl, hS5', stop H5 _ s15 hS5 k⟩
        have c9 : ¬ ((pl + n : Nat) : Int) < ((pl + 1 + m + 2 : Nat) : Int) + ((v : Nat) : Int) := fun z => c9 (decide_eq_true z)
        rw [if_neg (by omega)] at k
        have ht5 := ht.go s15
        obtain ⟨as5, hu1, hu2, hu3⟩ := id ht5
        refine ⟨_, rfl, .inl ⟨rfl, _, SqL.of (hide_some hu1).1⟩, _, rfl, _, rfl, R.r, R.dr, _, rfl, hS5', rfl, _, rfl, R, pl + 1 + m + 2, v, rfl, hI.go s15, hS5, ?_⟩
        unfold Rres takeR
        by_cases cA : R.B.length < pl + 1 + m + 2 + v
        · rw [if_pos cA]
          rw [if_pos ((hblen (m + 3 + v) (by omega)).mpr (by omega))] at k
          exact fun H' s' hF => k H' ((hide_same D _).trans (hide_step s15 s')) hF (ht.go (hide_step s15 s'))
        rw [if_neg cA]
        rw [if_neg (fun z => cA (by have := (hblen (m + 3 + v) (by omega)).mp z; omega))] at k
        dsimp only at k ⊢
        intro H6 s6 hS6 Dv hDv hDvx
        have eV : (R.B.drop (pl + 1 + m + 2)).take v = (b.drop (m + 3)).take v := by rw [hcut (m + 3) v (by omega), show pl + 1 + m + 2 = pl + (m + 3) by omega]
        rw [eV] at hDvx
        have s16 := hide_step s15 s6
        obtain ⟨as6, hw1, hw2, hw3⟩ := ht.go s16
        have hD6 : H6 D = some (.lst (as6.map V.ref)) := (hide_some hw1).1
        have hDk5 : H5 Dk = some (.lst (vN (bn key))) := s5 _ _ (by rw [hide_ne hDkr]; exact s4 _ _ hDk3)
        have hDk6 : H6 Dk = some (.lst (vN (bn key))) := s6 _ _ (by rw [hide_ne hDkr]; exact hDk5)
        have hDkD : Dk ≠ D := fun z => by
          have : H1 D = some _ := (hide_some (ht.go s1).choose_spec.1).1
          rw [z, this] at hDk; cases hDk
        have hDvr : Dv ≠ R.r := fun z => by rw [z, hS5'] at hDv; cases hDv
        have hDvD : Dv ≠ D := fun z => by rw [z, (hide_some hu1).1] at hDv; cases hDv
        intro x dx hx0 hdx hne
        refine ⟨x, dx, _, _, rfl, upd_same, rfl, ?_⟩
        rw [upd_made]
        have s7 : Same H6 (upd (upd H6 dx (.own x)) x (.ins A.c_Tag dx (tgf (.ref Dk) (.ref Dv)))) := same_made hx0 hdx
        have hx7 : upd (upd H6 dx (.own x)) x (.ins A.c_Tag dx (tgf (.ref Dk) (.ref Dv))) x = some (.ins A.c_Tag dx (tgf (.ref Dk) (.ref Dv))) := upd_same
        have hxr : x ≠ R.r := fun z => by rw [z] at hx0; unfold RgS at hS6; rw [hS6] at hx0; cases hx0
        have hxD : x ≠ D := fun z => by rw [z, hD6] at hx0; cases hx0
        generalize upd (upd H6 dx (.own x)) x (.ins A.c_Tag dx (tgf (.ref Dk) (.ref Dv))) = H7 at *
        refine ⟨D, _, _, rfl, rfl, s7 _ _ hD6, (by rw [List.length_map, sizeLine_eq]; omega), ?_⟩
        have s17 : Same (hide R.r H) H7 := s16.trans s7
        have hup : ∀ o, hide D (hide R.r (upd H7 D o)) = hide D (hide R.r H7) := fun o => by
          funext y
          by_cases hy : y = D
          · rw [hy]; unfold hide; rw [if_pos rfl, if_pos rfl]
          · rw [hide_ne hy, hide_ne hy]
            by_cases hy2 : y = R.r
            · rw [hy2]; unfold hide; rw [if_pos rfl, if_pos rfl]
            · rw [hide_ne hy2, hide_ne hy2, upd_ne hy]
        refine k _ ?_ ?_ ⟨as6 ++ [x], ?_, ?_, fun kk a e => ?_⟩
        · intro y o ey
          obtain ⟨e1, e2⟩ := hide_some ey
          rw [upd_ne e2]
          exact s17 _ _ e1
        · have e : pl + (m + 3 + v) = pl + 1 + m + 2 + v := by omega
          rw [e]
          unfold RgS
          rw [upd_ne (Ne.symm hDr)]
          exact s7 _ _ hS6
        · rw [hide_ne hDr, upd_same]; simp
        · rw [List.length_append, List.length_append, hw2]; rfl
        · rw [hup]
          by_cases hk : kk < as6.length
          · rw [List.getElem?_append_left hk] at e
            rw [List.getD_eq_getElem?_getD, List.getElem?_append_left (by omega), ← List.getD_eq_getElem?_getD]
            exact (hw3 kk a e).same (hide_mono (hide_mono s7))
          · rw [List.getElem?_append_right (by omega)] at e
            have hk0 : kk - as6.length = 0 := by
              have := (List.getElem?_eq_some_iff.mp e).1
              simp at this; omega
            rw [hk0] at e
            obtain rfl : x = a := Option.some.inj e
            rw [List.getD_eq_getElem?_getD, List.getElem?_append_right (by omega), show kk - seen.length = 0 by omega]
            show IsTg _ _ x (b.take (m + 3 + v))
            have hb1 : 1 ≤ b.length := by
              have := hblen (1 + m) (by omega)
              omega
            have hbl2 : m + 3 + v ≤ b.length := by
              have := hblen (m + 3 + v) (by omega)
              omega
            have hkey2 : Sound.keyOf (b.take (m + 3 + v)) = key := by
              have hh : ((b.take (m + 3 + v)).headD 0).toNat = m := by
                rw [← hm]
                obtain ⟨c, r, hcr⟩ := List.exists_cons_of_ne_nil (List.length_pos_iff.mp (show 0 < b.length by omega))
                rw [hcr, from1]
                obtain ⟨q, hq⟩ : ∃ q, Sound.fromHigh ((c :: r).take 1) + 3 + v = q + 1 := ⟨Sound.fromHigh ((c :: r).take 1) + 2 + v, by omega⟩
                rw [from1] at hq
                rw [hq]
                rfl
              unfold Sound.keyOf
              rw [hh, List.drop_take, List.take_take, Nat.min_eq_left (by omega)]
              exact hkey
            have hval2 : valOf (b.take (m + 3 + v)) = (b.drop (m + 3)).take v := by
              unfold valOf
              rw [hkey2, hkl, List.drop_take, show m + 3 + v - (m + 3) = v by omega]
            refine ⟨dx, Dk, Dv, ?_, ?_, ?_⟩
            · rw [hide_ne hxD, hide_ne hxr]; exact hx7
            · rw [hkey2, hide_ne hDkD, hide_ne hDkr]; exact s7 _ _ hDk6
            · rw [hval2, hide_ne hDvD, hide_ne hDvr]; exact s7 _ _ hDvx
theorem tagOne_le {at_ n : Nat} {seen : List Sound.Bytes} {b : Sound.Bytes} {z : Nat} (h : tagOne at_ n seen b = .inr z) : z ≤ n ∧ z ≤ b.length := by
  unfold tagOne at h
  simp only at h
  split at h
  · cases h
  · split at h
    · cases h
    · split at h
      · cases h
      · split at h
        · cases h
        · split at h
          · cases h
          · split at h
            · cases h
            · split at h
              · cases h
              · split at h
                · cases h
                · cases h
                  omega
theorem tagOne_nw {at_ n : Nat} {seen : List Sound.Bytes} {b : Sound.Bytes} (h : tagOne at_ n seen b = .inl .whole) : False := by
  unfold tagOne at h
  simp only at h
  split at h
  · cases h
  · split at h
    · cases h
    · split at h
      · cases h
      · split at h
        · cases h
        · split at h
          · cases h
          · split at h
            · cases h
            · split at h
              · cases h
              · split at h
                · cases h
                · cases h
def AreaOut (A : Adr) (H : Hp) (R : Rg) (D : Addr) (pl : Nat) (o : List Sound.Bytes × Sound.Stand) (Q : VK) (E : XK) : Prop := match o with
  | (l, .whole) => ∀ H', Same (hide D (hide R.r H)) H' → RgS A.c_Reading H' R pl → TgsI A.c_Tag H' R.r D l → Q .non H'
  | (l, .more) => ∀ H', Same (hide D (hide R.r H)) H' → RgF A.c_Reading H' R 1 R.B.length → TgsI A.c_Tag H' R.r D l → E (.ref A.c_Faulty) none H'
  | (l, .fault k p) => ∀ H', Same (hide D (hide R.r H)) H' → RgF A.c_Reading H' R k p → TgsI A.c_Tag H' R.r D l → E (.ref A.c_Faulty) none H'
def spRTags (K : PySem.W.Frag) (A : Adr) : Sp := fun vs H Q E => ∃ (R : Rg) (D : Addr) (t : Nat), vs = [.ref R.r, .int (t : Nat), .ref D] ∧ RgI K H R ∧ RgS A.c_Reading H R 26 ∧ TgsI A.c_Tag H R.r D [] ∧ (6 ≤ t ∧ t ≤ 1024 ∧ 26 ≤ R.B.length ∧ SqL K (hide D (hide R.r H)) R.q (vN (bn R.B))) ∧
  AreaOut A H R D (26 + t) (Sound.areaOf t ((R.B.drop 26).take t)) Q E
theorem sc_read_tags : FnScope ["reading", "size", "tags", "begin", "end", "count", "step", "place"] ["reading", "size", "tags"] (defScope s_read_tags) := ⟨rfl, rfl, rfl, by decide +kernel, rfl, by decide +kernel, by decide +kernel⟩
theorem hide2_step {D r : Addr} {H H' H'' : Hp} (s : Same (hide D (hide r H)) H') (s' : Same (hide D (hide r H')) H'') : Same (hide D (hide r H)) H'' := fun b o e => by
  obtain ⟨e1, e2⟩ := hide_some e
  obtain ⟨e3, e4⟩ := hide_some e1
  refine s' b o ?_
  rw [hide_ne e2, hide_ne e4]
  exact s b o e
theorem hide2_of {D r : Addr} {H H' : Hp} (s : Same (hide r H) H') : Same (hide D (hide r H)) H' := (hide_same D _).trans s
theorem from1' {B : Sound.Bytes} {pl : Nat} (h : pl < B.length) : Sound.fromHigh ((B.drop pl).take 1) = (B[pl]).toNat := by
  rw [List.drop_eq_getElem_cons h, from1]
theorem RgI.of2 {H H' : Hp} {R : Rg} {D : Addr} (h : SqL K (hide D (hide R.r H)) R.q (vN (bn R.B))) (hl : R.B.length ≤ 16384) (s : Same (hide D (hide R.r H)) H') : RgI K H' R := by
  refine ⟨?_, hl⟩
  have s2 : Same (hide D (hide R.r H)) (hide R.r H') := fun b o e => by
    obtain ⟨e1, e2⟩ := hide_some e
    rw [hide_ne (hide_some e1).2]; exact s b o e
  exact s2.seq h
theorem ok_read_tags (T : Txt K mg A) : FnOk P w K mg base (CX1 P w) 7 A.f_read_tags A.d_read_tags ["reading", "size", "tags"] (spRTags K A) := by
  refine T.F_read_tags.okE sc_read_tags (fun vs H Q E h => ?_) (fun cdv Ar outer s H vs Q E hr h => ?_)
  · obtain ⟨R, D, t, rfl, _⟩ := h
    rfl
  · obtain ⟨R, D, t, rfl, hI, hx, ht, ⟨ht6, ht10, hB26, hqD⟩, k⟩ := h
    have hr1' : Room 1 _ := hr.mono (by decide)
    have hr4' : Room 4 _ := hr.mono (by decide)
    have hr5' : Room 5 _ := hr.mono (by decide)
    refine ⟨_, pss_cons (ps_set (i := 3) sc_read_tags.nd rfl (Or.inl rfl) (pe_fld (pv 0) rfl))
      (pss_cons (ps_set (i := 4) sc_read_tags.nd rfl (Or.inl rfl) (pe_op op_sub (pe_op op_add (pv 3) (pv 1)) (pe_gi rfl T.g_CRC32_SIZE)))
      (pss_cons (ps_set (i := 5) sc_read_tags.nd rfl (Or.inl rfl) (pe_meth (pv 0) T.l_Reading T.e_Reading_number (ok_Reading_number T) hr4' T.b_Reading_number .nil passes1 (pa_cons (pe_gi rfl T.g_COUNT_SIZE) pa_nil)))
      (pss_cons (ps_if (pt_cmpR op_gt (pv 5) (pe_gi rfl T.g_MOST_TAGS) (nomark _)) (pss_one (ps_expr (pe_meth (pv 0) T.l_Reading T.e_Reading_stop_at (ok_Reading_stop_at T) hr1' T.b_Reading_stop_at .nil passes1 (pa_cons (pe_gi rfl T.g_BAD_TAGS) (pa_cons (pv 3) pa_nil))))) pss_nil)
      (pss_cons (ps_for PassesOwn.leaving rfl (pi_range1 rfl T.z_range (pa_cons (pv 5) pa_nil)) (pg_name (i := 6) sc_read_tags.nd rfl (Or.inl rfl))
        (pss_one (ps_expr (pe_call (ok_read_tag T) hr rfl T.m_read_tag T.F_read_tag.kp T.b_read_tag .nil passes1 (pa_cons (pv 0) (pa_cons (pv 4) (pa_cons (pv 2) pa_nil)))))))
      (pss_cons (ps_for PassesOwn.leaving rfl (pi_range2 rfl T.z_range (pa_cons (pe_fld (pv 0) rfl) (pa_cons (pv 4) pa_nil))) (pg_name (i := 7) sc_read_tags.nd rfl (Or.inl rfl))
        (pss_one (ps_if (pt_cmpR op_ne (pe_meth (pv 0) T.l_Reading T.e_Reading_number (ok_Reading_number T) hr4' T.b_Reading_number .nil passes1 (pa_cons pe_int pa_nil)) pe_int (nomark _)) (pss_one (ps_expr (pe_meth (pv 0) T.l_Reading T.e_Reading_stop_at (ok_Reading_stop_at T) hr1' T.b_Reading_stop_at .nil passes1 (pa_cons (pe_gi rfl T.g_BAD_TAGS) (pa_cons (pv 7) pa_nil))))) pss_nil)))
      (pss_one (ps_expr (pe_meth (pv 0) T.l_Reading T.e_Reading_seal (ok_Reading_seal T) hr5' T.b_Reading_seal .nil passes1 (pa_cons (pv 3) (pa_cons (pe_gi rfl T.g_BAD_TAGS_CHECK) pa_nil)))))))))), ?_⟩
    have hx' := hx
    unfold RgS at hx'
    generalize hb : (R.B.drop 26).take t = b at *
    have hblen : ∀ j, j ≤ t → (b.length < j ↔ R.B.length < 26 + j) := fun j hj => by rw [← hb]; exact len_in' hj hB26
    have hcut : ∀ i j, i + j ≤ t → (b.drop i).take j = (R.B.drop (26 + i)).take j := fun i j hj => by rw [← hb]; exact cut_in hj
    obtain ⟨as0, ha1, ha2, ha3⟩ := id ht
    have has0 : as0 = [] := List.length_eq_zero_iff.mp ha2
    subst has0
    have hDr : D ≠ R.r := (hide_some ha1).2
    refine ⟨_, rfl, R.r, A.c_Reading, R.dr, _, _, rfl, hx', T.l_Reading, T.n_Reading_place, rfl, ?_⟩
    refine ⟨_, rfl, _, rfl, _, _, rfl, rfl, _, _, rfl, rfl, ?_⟩
    dsimp only
    rw [show ((26 : Nat) : Int) + ((t : Nat) : Int) - 4 = ((26 + t - 4 : Nat) : Int) by omega]
    refine ⟨_, rfl, R.r, R.dr, _, rfl, hx', rfl, R, 26, 2, rfl, hI, hx, by decide, ?_⟩
    unfold AreaOut Sound.areaOf Sound.TAGS Sound.HEAD at k
    unfold Rres takeR
    by_cases c1 : R.B.length < 26 + 2
    · rw [if_pos c1]
      rw [if_pos ((hblen 2 (by omega)).mpr c1)] at k
      exact fun H' s' hF => k H' (hide2_of s') hF (ht.go s')
    rw [if_neg c1]
    rw [if_neg (fun z => c1 ((hblen 2 (by omega)).mp z))] at k
    dsimp only
    intro H1 s1 hS1
    have e1 : (R.B.drop 26).take 2 = b.take 2 := by
      have := hcut 0 2 (by omega)
      rw [List.drop_zero, Nat.add_zero] at this
      exact this.symm
    rw [e1]
    generalize Sound.fromHigh (b.take 2) = cnt at *
    have hS1' := hS1
    unfold RgS at hS1'
    refine ⟨_, rfl, _, _, rfl, rfl, _, rfl, ?_⟩
    refine ite2 (fun c2 => ?_) fun c2 => ?_
    · have c2 : (16 : Int) < ((cnt : Nat) : Int) := of_decide_eq_true c2
      rw [if_pos (show 16 < cnt by omega)] at k
      refine ⟨_, rfl, R.r, R.dr, _, rfl, hS1', rfl, _, rfl, R.r, R.dr, _, _, _, _, 5, 26, rfl, hS1', ?_⟩
      have s2 := hide_step s1 (hide_put (r := R.r) (H := H1) (o := .ins A.c_Reading R.dr (rgf (.ref R.q) (.int ((26 + 2 : Nat) : Int)) (.int ((5 : Nat) : Int)) (.int ((26 : Nat) : Int)))))
      exact k _ (hide2_of s2) ⟨_, upd_same⟩ (ht.go s2)
    have c2 : ¬ (16 : Int) < ((cnt : Nat) : Int) := fun z => c2 (decide_eq_true z)
    rw [if_neg (show ¬ 16 < cnt by omega)] at k
    refine ⟨_, rfl, _, rfl, by omega, by omega, ?_⟩
    have eb2 : b.drop 2 = (R.B.drop 28).take (t - 6 + 4) := by
      rw [← hb, List.drop_take, List.drop_drop, show t - 2 = t - 6 + 4 by omega]
    rw [eb2] at k
    refine for_range (lo := 0) (n := ((cnt : Nat) : Int).toNat) (fun i σ H' => ∃ (pl n : Nat) (seen : List Sound.Bytes) (v6 v7 : Option V), Sound.tagItems cnt (26 + 2) (t - 6) [] ((R.B.drop 28).take (t - 6 + 4)) = Sound.tagItems (cnt - i) pl n seen ((R.B.drop pl).take (n + 4)) ∧ pl + n = 26 + t - 4 ∧ pl ≤ R.B.length ∧ seen.length = i ∧
        Same (hide D (hide R.r H)) H' ∧ RgI K H' R ∧ RgS A.c_Reading H' R pl ∧ TgsI A.c_Tag H' R.r D seen ∧ σ = [some (.ref R.r), some (.int (t : Nat)), some (.ref D), some (.int ((26 : Nat) : Int)), some (.int ((26 + t - 4 : Nat) : Int)), some (.int (cnt : Nat)), v6, v7])
      ⟨28, t - 6, [], none, none, rfl, by omega, by omega, rfl, hide2_of s1, hI.go s1, hS1, ht.go s1, rfl⟩ ?_ ?_
    · rintro i σ H2 hi ⟨pl, n, seen, v6, v7, heq, hpn, hpB, hsl, s2, hI2, hS2, ht2, rfl⟩
      rw [Int.toNat_natCast] at hi
      obtain ⟨j, hj⟩ : ∃ j, cnt - i = j + 1 := ⟨cnt - i - 1, by omega⟩
      rw [hj, tagItems_one] at heq
      refine ⟨_, rfl, _, rfl, _, rfl, R, D, pl, n, seen, (by rw [hpn]; rfl), hI2, hS2, ht2, ⟨hpB, by omega⟩, ?_⟩
      unfold TagOut
      cases eo : tagOne pl n seen ((R.B.drop pl).take (n + 4)) with
      | inl st =>
        rw [eo] at heq
        rw [heq] at k
        dsimp only at k ⊢
        intro H3 s3 hF ht3
        have s23 := hide2_step s2 s3
        cases st with
        | more => exact k H3 s23 hF ht3
        | whole => exact (tagOne_nw eo).elim
        | fault kk p => exact k H3 s23 hF ht3
      | inr z =>
        rw [eo] at heq
        dsimp only at heq ⊢
        obtain ⟨hzn, hzb⟩ := tagOne_le eo
        rw [List.length_take, List.length_drop] at hzb
        intro H3 s3 hS3 ht3
        refine ⟨pl + z, n - z, _, _, _, ?_, by omega, by omega, by rw [List.length_append, hsl]; rfl, hide2_step s2 s3, ?_, hS3, ht3, rfl⟩
        · rw [heq, show cnt - (i + 1) = j by omega, List.drop_take, List.drop_drop, show n + 4 - z = n - z + 4 by omega]
        · exact RgI.of2 hqD hI.2 (hide2_step s2 s3)
    · rintro σ H2 ⟨pl, n, seen, v6, v7, heq, hpn, hpB, hsl, s2, hI2, hS2, ht2, rfl⟩
      rw [Int.toNat_natCast, Nat.sub_self] at heq
      have h0 : Sound.tagItems 0 pl n seen ((R.B.drop pl).take (n + 4)) = (seen, .inr (pl, n, (R.B.drop pl).take (n + 4))) := by unfold Sound.tagItems; rfl
      rw [h0] at heq
      rw [heq] at k
      dsimp only at k
      generalize hr4 : (R.B.drop pl).take (n + 4) = r4 at *
      have hrlen : ∀ j, j ≤ n + 4 → (r4.length < j ↔ R.B.length < pl + j) := fun j hj => by rw [← hr4]; exact len_in' hj hpB
      have hrget : ∀ i, i < r4.length → ∃ h : pl + i < R.B.length, r4[i]? = some (R.B[pl + i]) := fun i hi => by
        rw [← hr4, List.length_take, List.length_drop] at hi
        refine ⟨by omega, ?_⟩
        rw [← hr4, List.getElem?_take, if_pos (by omega), List.getElem?_drop, List.getElem?_eq_getElem (by omega)]
      have hS2' := hS2
      unfold RgS at hS2'
      refine ⟨_, rfl, R.r, A.c_Reading, R.dr, _, _, rfl, hS2', T.l_Reading, T.n_Reading_place, rfl, _, rfl, _, _, rfl, ⟨by omega, by omega, by omega, by omega⟩, ?_⟩
      refine for_range (lo := ((pl : Nat) : Int)) (n := (((26 + t - 4 : Nat) : Int) - ((pl : Nat) : Int)).toNat) (fun j σ H' => ∃ (v7 : Option V), (∀ i, i < j → r4[i]? = some 0) ∧ Same (hide R.r H2) H' ∧ RgS A.c_Reading H' R (pl + j) ∧ σ = [some (.ref R.r), some (.int (t : Nat)), some (.ref D), some (.int ((26 : Nat) : Int)), some (.int ((26 + t - 4 : Nat) : Int)), some (.int (cnt : Nat)), v6, v7])
        ⟨v7, fun i hi => by omega, hide_of (Same.refl _), hS2, rfl⟩ ?_ ?_
      · rintro j σ H3 hj ⟨v7, hz, s3, hS3, rfl⟩
        have hjn : j < n := by omega
        have hS3' := hS3
        unfold RgS at hS3'
        refine ⟨_, rfl, R.r, R.dr, _, rfl, hS3', rfl, R, pl + j, 1, rfl, hI2.go s3, hS3, by decide, ?_⟩
        unfold Rres takeR
        by_cases c3 : R.B.length < pl + j + 1
        · rw [if_pos c3]
          have hlt : r4.length < j + 1 := (hrlen (j + 1) (by omega)).mpr (by omega)
          have hnone : (r4.take n).findIdx? (fun (x : UInt8) => x != 0) = none := by
            rw [List.findIdx?_eq_none_iff]
            intro x hx
            obtain ⟨i, hi, rfl⟩ := List.getElem_of_mem (List.mem_of_mem_take hx)
            have := hz i (by omega)
            rw [List.getElem?_eq_getElem hi] at this
            rw [Option.some.inj this]; rfl
          rw [hnone] at k
          dsimp only at k
          rw [if_pos ((hblen t (by omega)).mpr (by omega))] at k
          exact fun H' s' hF => k H' (hide2_step s2 (hide2_of (hide_step s3 s'))) hF (ht2.go (hide_step s3 s'))
        rw [if_neg c3]
        dsimp only
        intro H4 s4 hS4
        have s24 := hide_step s3 s4
        have hS4' := hS4
        unfold RgS at hS4'
        rw [from1' (by omega)]
        have hjr : j < r4.length := by
          have := hrlen (j + 1) (by omega)
          omega
        obtain ⟨hh, hgj⟩ := hrget j hjr
        refine ⟨rfl, _, rfl, ?_⟩
        by_cases c4 : R.B[pl + j] = 0
        · rw [decide_eq_true (by rw [c4]; rfl)]
          refine iteF ⟨_, fun i hi => ?_, s24, hS4, rfl⟩
          by_cases hij : i = j
          · rw [hij, hgj, c4]
          · exact hz i (by omega)
        · have c4' : ¬ (R.B[pl + j]).toNat = 0 := fun z => c4 (UInt8.toNat_inj.mp z)
          rw [decide_eq_false (fun z => c4' (by have := V.int.inj z; omega))]
          have hsome : (r4.take n).findIdx? (fun (x : UInt8) => x != 0) = some j := by
            rw [List.findIdx?_eq_some_iff_getElem]
            have hjl : j < (r4.take n).length := by rw [List.length_take]; omega
            refine ⟨hjl, ?_, fun i hi => ?_⟩
            · rw [List.getElem_take]
              have := hgj
              rw [List.getElem?_eq_getElem hjr] at this
              rw [Option.some.inj this]
              simpa using c4
            · rw [List.getElem_take]
              have := hz i hi
              rw [List.getElem?_eq_getElem (by omega)] at this
              rw [Option.some.inj this]
              decide
          rw [hsome] at k
          dsimp only at k
          refine iteT ⟨_, rfl, R.r, R.dr, _, rfl, hS4', rfl, _, rfl, R.r, R.dr, _, _, _, _, 5, pl + j, ?_, hS4', ?_⟩
          · show [V.ref R.r, V.int 5, V.int (((pl : Nat) : Int) + ((j : Nat) : Int))] = _
            rw [show ((pl : Nat) : Int) + ((j : Nat) : Int) = ((pl + j : Nat) : Int) by omega]; rfl
          · have s5 := hide_step s24 (hide_put (r := R.r) (H := H4) (o := .ins A.c_Reading R.dr (rgf (.ref R.q) (.int ((pl + j + 1 : Nat) : Int)) (.int ((5 : Nat) : Int)) (.int ((pl + j : Nat) : Int)))))
            exact k _ (hide2_step s2 (hide2_of s5)) ⟨_, upd_same⟩ (ht2.go s5)
      · rintro σ H3 ⟨v7, hz, s3, hS3, rfl⟩
        have hnn : (((26 + t - 4 : Nat) : Int) - ((pl : Nat) : Int)).toNat = n := by omega
        rw [hnn] at hz hS3
        have hS3' := hS3
        unfold RgS at hS3'
        have hnone : (r4.take n).findIdx? (fun (x : UInt8) => x != 0) = none := by
          rw [List.findIdx?_eq_none_iff]
          intro x hx
          obtain ⟨i, hi, rfl⟩ := List.getElem_of_mem hx
          rw [List.length_take] at hi
          rw [List.getElem_take]
          have := hz i (by omega)
          rw [List.getElem?_eq_getElem (by omega)] at this
          rw [Option.some.inj this]; rfl
        rw [hnone] at k
        dsimp only at k
        refine ⟨_, rfl, R.r, R.dr, _, rfl, hS3', rfl, _, rfl, R, pl + n, 26, 6, rfl, hI2.go s3, hS3, ?_⟩
        unfold Rres sealR
        rw [hpn]
        by_cases c5 : R.B.length < 26 + t - 4 + 4
        · rw [if_pos c5]
          rw [if_pos ((hblen t (by omega)).mpr (by omega))] at k
          exact fun H' s' hF => k H' (hide2_step s2 (hide2_of (hide_step s3 s'))) hF (ht2.go (hide_step s3 s'))
        rw [if_neg c5]
        rw [if_neg (fun z => c5 (by have := (hblen t (by omega)).mp z; omega))] at k
        have ec1 : (b.drop (t - 4)).take 4 = (R.B.drop (26 + t - 4)).take 4 := by rw [hcut (t - 4) 4 (by omega), show 26 + (t - 4) = 26 + t - 4 by omega]
        have ec2 : b.take (t - 4) = (R.B.drop 26).take (26 + t - 4 - 26) := by
          have := hcut 0 (t - 4) (by omega)
          rw [List.drop_zero, Nat.add_zero] at this
          rw [this, show 26 + t - 4 - 26 = t - 4 by omega]
        rw [ec1, ec2] at k
        by_cases c6 : Sound.fromHigh ((R.B.drop (26 + t - 4)).take 4) = Sound.crc32 ((R.B.drop 26).take (26 + t - 4 - 26))
        · rw [if_neg (fun z => z c6)]
          rw [if_pos c6] at k
          dsimp only at k ⊢
          intro H' s' hS'
          rw [show 26 + t - 4 + 4 = 26 + t by omega] at hS'
          exact k H' (hide2_step s2 (hide2_of (hide_step s3 s'))) hS' (ht2.go (hide_step s3 s'))
        · rw [if_pos c6]
          rw [if_neg c6] at k
          dsimp only at k ⊢
          exact fun H' s' hF => k H' (hide2_step s2 (hide2_of (hide_step s3 s'))) hF (ht2.go (hide_step s3 s'))
def hdf (f n t : V) : List (Str × V) := [("form", f), ("samples", n), ("tags_size", t)]
def IsHd (A : Adr) (H : Hp) (x : Addr) (h : Sound.Head) : Prop := ∃ dx f, H x = some (.ins A.c_Head dx (hdf (.ref f) (.int (h.n : Nat)) (.int (h.t : Nat)))) ∧ IsFm A.c_Form H f (Sound.eager h.form)
theorem IsHd.same {H H' : Hp} {x : Addr} {h : Sound.Head} (i : IsHd A H x h) (s : Same H H') : IsHd A H' x h := by
  obtain ⟨dx, f, h1, h2⟩ := i
  exact ⟨dx, f, s _ _ h1, h2.same s⟩
def spHdI (C : Addr) : Sp := fun vs H Q _ => ∃ (p dx : Addr) (a b c : V), vs = [.ref p, a, b, c] ∧ H p = some (.ins C dx []) ∧ Q .non (upd H p (.ins C dx (hdf a b c)))
theorem sc_Head_init : FnScope ["self", "form", "samples", "tags_size"] ["self", "form", "samples", "tags_size"] (defScope s_Head_init) := ⟨rfl, rfl, rfl, by decide +kernel, rfl, by decide +kernel, by decide +kernel⟩
theorem ok_Head_init (T : Txt K mg A) : FnOk P w K mg base CX0 1 A.f_Head_init A.d_Head_init ["self", "form", "samples", "tags_size"] (spHdI A.c_Head) := by
  refine T.F_Head_init.ok sc_Head_init (fun vs H Q E h => ?_) (fun cdv Ar outer s H vs Q E hr h => ?_)
  · obtain ⟨p, dx, a, b, c, rfl, _⟩ := h
    rfl
  · obtain ⟨p, dx, a, b, c, rfl, hp, k⟩ := h
    refine ⟨_, pss_cons (ps_fld (pv 0) (pv 1) rfl) (pss_cons (ps_fld (pv 0) (pv 2) rfl) (pss_one (ps_fld (pv 0) (pv 3) rfl))), ?_⟩
    refine ⟨_, rfl, _, rfl, p, A.c_Head, dx, [], rfl, hp, T.l_Head, T.n_Head_form, (by show 0 < 1000; decide), ?_⟩
    refine ⟨_, rfl, _, rfl, p, A.c_Head, dx, _, rfl, upd_same, T.l_Head, T.n_Head_samples, (by show 1 < 1000; decide), ?_⟩
    refine ⟨_, rfl, _, rfl, p, A.c_Head, dx, _, rfl, upd_same, T.l_Head, T.n_Head_tags_size, (by show 2 < 1000; decide), ?_⟩
    rw [upd_upd, upd_upd]
    exact k
def hdOf (d : Sound.Bytes) : Sound.Head := ⟨⟨Sound.fromHigh (d.take 1), Sound.fromHigh ((d.drop 1).take 1), Sound.fromHigh ((d.drop 2).take 2), 0, Sound.fromHigh ((d.drop 4).take 1), Sound.fromHigh ((d.drop 5).take 1)⟩, Sound.fromHigh ((d.drop 6).take 4), Sound.fromHigh ((d.drop 10).take 4)⟩
theorem fields_eq (B : Sound.Bytes) : Sound.fields B = hdOf ((B.drop 8).take 14) := by
  unfold Sound.fields hdOf
  have c : ∀ i j, i + j ≤ 14 → (((B.drop 8).take 14).drop i).take j = (B.drop (8 + i)).take j := fun i j h => cut_in h
  have c0 : ((B.drop 8).take 14).take 1 = (B.drop 8).take 1 := by rw [List.take_take]; rfl
  rw [c0, c 1 1 (by decide), c 2 2 (by decide), c 4 1 (by decide), c 5 1 (by decide), c 6 4 (by decide), c 10 4 (by decide)]
theorem eager_ok (F : Sound.Form) (h : F.order = 0) : (Sound.eager F).ok = F.ok := by
  unfold Sound.eager Sound.Form.ok
  rw [h]; rfl
theorem from_small {l : Sound.Bytes} {k : Nat} (h : l.length ≤ k) : Sound.fromHigh l < 256 ^ k := by
  rw [from_eq]
  have h1 := fromN_lt (l := l.map UInt8.toNat) (fun x hx => bn_lt l x hx)
  have h2 : 256 ^ (l.map UInt8.toNat).length ≤ 256 ^ k := Nat.pow_le_pow_right (by decide) (by rw [List.length_map]; exact h)
  omega
theorem at_one {d : Sound.Bytes} {i : Nat} (h : i < d.length) : (vN (bn d))[i]? = some (.int (Sound.fromHigh ((d.drop i).take 1) : Nat)) := by
  rw [vN_get (by rw [bn_len]; exact h), from1' h]
  unfold bn
  rw [List.getD_eq_getElem?_getD, List.getElem?_map, List.getElem?_eq_getElem h]
  rfl
def spTold (K : PySem.W.Frag) (A : Adr) : Sp := fun vs H Q _ => ∃ (q : Addr) (d : Sound.Bytes), vs = [.ref q] ∧ SqL K H q (vN (bn d)) ∧ d.length = 14 ∧ (if Sound.mayHead (hdOf d) = true then ∀ x H', Same H H' → IsHd A (newOf H H') x (hdOf d) → Q (.ref x) H' else ∀ H', Same H H' → Q .non H')
theorem sc_head_told : FnScope ["data", "form", "samples", "tags_size"] ["data"] (defScope s_head_told) := ⟨rfl, rfl, rfl, by decide +kernel, rfl, by decide +kernel, by decide +kernel⟩
theorem ok_head_told (T : Txt K mg A) : FnOk P w K mg base CX0 3 A.f_head_told A.d_head_told ["data"] (spTold K A) := by
  refine T.F_head_told.ok sc_head_told (fun vs H Q E h => ?_) (fun cdv Ar outer s H vs Q E hr h => ?_)
  · obtain ⟨q, d, rfl, _⟩ := h
    rfl
  · obtain ⟨q, d, rfl, hq, hd, k⟩ := h
    have hr1' : Room 1 _ := hr.mono (by decide)
    have hr2' : Room 2 _ := hr.mono (by decide)
    refine ⟨_, pss_cons (ps_set (i := 1) sc_head_told.nd rfl (Or.inl rfl) (pe_lst (pa_cons (pe_ix ix_list (pv 0) pe_int (fun _ _ => rfl)) (pa_cons (pe_ix ix_list (pv 0) pe_int (fun _ _ => rfl)) (pa_cons (pe_call (ok_from_octets T) hr1' rfl T.m_from_octets T.F_from_octets.kp T.b_from_octets .nil pass0 (pa_cons (pe_slice sl_list (pv 0) (po_some pe_int) (po_some pe_int)) pa_nil))
        (pa_cons (pe_gi rfl T.g_ORDER) (pa_cons (pe_ix ix_list (pv 0) pe_int (fun _ _ => rfl)) (pa_cons (pe_ix ix_list (pv 0) pe_int (fun _ _ => rfl)) pa_nil))))))))
      (pss_cons (ps_set (i := 2) sc_head_told.nd rfl (Or.inl rfl) (pe_call (ok_from_octets T) hr1' rfl T.m_from_octets T.F_from_octets.kp T.b_from_octets .nil pass0 (pa_cons (pe_slice sl_list (pv 0) (po_some pe_int) (po_some pe_int)) pa_nil)))
      (pss_cons (ps_set (i := 3) sc_head_told.nd rfl (Or.inl rfl) (pe_call (ok_from_octets T) hr1' rfl T.m_from_octets T.F_from_octets.kp T.b_from_octets .nil pass0 (pa_cons (pe_slice sl_list (pv 0) (po_some pe_int) po_none) pa_nil)))
      (pss_cons (ps_if (PW.pt (pw_or (pt_not (pt_val (pe_call (ok_is_form T) hr1' rfl T.m_is_form T.F_is_form.kp T.b_is_form .nil pass0 (pa_cons (pv 1) pa_nil)))) (pw_or1 (pt_cmpR op_gt (pe_op op_mul (pv 2) (pe_ix ix_list (pv 1) pe_int (fun _ _ => rfl))) (pe_gi rfl T.g_MOST_NUMBERS) (nomark _))))) (pss_one (ps_ret pe_non)) pss_nil)
      (pss_cons (ps_if (pt_not (pt_chain op_le op_le (pe_gi rfl T.g_LEAST_TAGS_SIZE) (pv 3) (pe_gi rfl T.g_MOST_TAGS_SIZE))) (pss_one (ps_ret pe_non)) pss_nil)
      (pss_one (ps_ret (pe_make T.k_Head (ok_Head_init T) hr2' rfl T.m_Head T.b_Head_init .nil pass0 (pa_cons (pe_make T.k_Form (ok_Form_init T) hr2' rfl T.m_Form T.b_Form_init .nil pass0 (pa_cons (pv 1) pa_nil)) (pa_cons (pv 2) (pa_cons (pv 3) pa_nil)))))))))), ?_⟩
    have fr : ∀ l : Sound.Bytes, fromN (bn l) = Sound.fromHigh l := fun l => (from_eq l).symm
    have c2 : ∀ (a b : Nat), cutV (vN (bn d)) (some (a : Int)) (some (b : Int)) = vN (bn ((d.drop a).take (b - a))) := fun a b => by rw [vN_cut, bn_drop, bn_take]
    have h0 : (vN (bn d))[0]? = some (.int (Sound.fromHigh (d.take 1) : Nat)) := by
      have := at_one (d := d) (i := 0) (by omega)
      rwa [List.drop_zero] at this
    refine ⟨_, rfl, q, _, _, _, rfl, rfl, hq, atI_nat (j := 0) h0, _, rfl, q, _, _, _, rfl, rfl, hq, atI_nat (j := 1) (at_one (by omega)), _, rfl, _, rfl, _, rfl, q, _, rfl, hq, fun p1 hp1 => ?_⟩
    have e1 : cutV (vN (bn d)) (some (2 : Int)) (some (4 : Int)) = vN (bn ((d.drop 2).take 2)) := c2 2 4
    rw [e1]
    have s1 := same_new (o := .lst (vN (bn ((d.drop 2).take 2)))) hp1
    refine ⟨p1, bn ((d.drop 2).take 2), rfl, SqL.of upd_same, (by rw [bn_len, List.length_take]; omega), bn_lt _, ?_⟩
    rw [fr]
    generalize upd H p1 (.lst (vN (bn ((d.drop 2).take 2)))) = H1 at *
    refine ⟨_, rfl, q, _, _, _, rfl, rfl, s1.seq hq, atI_nat (j := 4) (at_one (by omega)), _, rfl, q, _, _, _, rfl, rfl, s1.seq hq, atI_nat (j := 5) (at_one (by omega)), by rw [sizeLine_eq]; show 6 ≤ _; omega, fun F hF => ?_⟩
    have efm : ([V.int (Sound.fromHigh (d.take 1) : Nat), V.int (Sound.fromHigh ((d.drop 1).take 1) : Nat), V.int (Sound.fromHigh ((d.drop 2).take 2) : Nat), V.int 4, V.int (Sound.fromHigh ((d.drop 4).take 1) : Nat), V.int (Sound.fromHigh ((d.drop 5).take 1) : Nat)] : List V) =
      vN [Sound.fromHigh (d.take 1), Sound.fromHigh ((d.drop 1).take 1), Sound.fromHigh ((d.drop 2).take 2), 4, Sound.fromHigh ((d.drop 4).take 1), Sound.fromHigh ((d.drop 5).take 1)] := rfl
    rw [efm]
    have s2 := s1.trans (same_new (o := .lst (vN [Sound.fromHigh (d.take 1), Sound.fromHigh ((d.drop 1).take 1), Sound.fromHigh ((d.drop 2).take 2), 4, Sound.fromHigh ((d.drop 4).take 1), Sound.fromHigh ((d.drop 5).take 1)])) hF)
    have hFx : upd H1 F (.lst (vN [Sound.fromHigh (d.take 1), Sound.fromHigh ((d.drop 1).take 1), Sound.fromHigh ((d.drop 2).take 2), 4, Sound.fromHigh ((d.drop 4).take 1), Sound.fromHigh ((d.drop 5).take 1)])) F = some (.lst (vN [Sound.fromHigh (d.take 1), Sound.fromHigh ((d.drop 1).take 1), Sound.fromHigh ((d.drop 2).take 2), 4, Sound.fromHigh ((d.drop 4).take 1), Sound.fromHigh ((d.drop 5).take 1)])) := upd_same
    have nF : H F = none := s1.none hF
    generalize upd H1 F (.lst (vN [Sound.fromHigh (d.take 1), Sound.fromHigh ((d.drop 1).take 1), Sound.fromHigh ((d.drop 2).take 2), 4, Sound.fromHigh ((d.drop 4).take 1), Sound.fromHigh ((d.drop 5).take 1)])) = H2 at *
    refine ⟨_, rfl, _, rfl, _, rfl, q, _, rfl, s2.seq hq, fun p3 hp3 => ?_⟩
    have e3 : cutV (vN (bn d)) (some (6 : Int)) (some (10 : Int)) = vN (bn ((d.drop 6).take 4)) := c2 6 10
    rw [e3]
    have s3 := same_new (o := .lst (vN (bn ((d.drop 6).take 4)))) hp3
    refine ⟨p3, bn ((d.drop 6).take 4), rfl, SqL.of upd_same, (by rw [bn_len, List.length_take]; omega), bn_lt _, ?_⟩
    rw [fr]
    have s03 := s2.trans s3
    have hF3 := s3 _ _ hFx
    generalize upd H2 p3 (.lst (vN (bn ((d.drop 6).take 4)))) = H3 at *
    refine ⟨_, rfl, _, rfl, q, _, rfl, s03.seq hq, fun p4 hp4 => ?_⟩
    have e4 : cutV (vN (bn d)) (some (10 : Int)) none = vN (bn ((d.drop 10).take 4)) := by
      rw [show (some (10 : Int)) = some ((10 : Nat) : Int) from rfl, vN_from, bn_drop, List.take_of_length_le (by rw [List.length_drop]; omega)]
    rw [e4]
    have s4 := same_new (o := .lst (vN (bn ((d.drop 10).take 4)))) hp4
    refine ⟨p4, bn ((d.drop 10).take 4), rfl, SqL.of upd_same, (by rw [bn_len, List.length_take]; omega), bn_lt _, ?_⟩
    rw [fr]
    have s04 := s03.trans s4
    have hF4 := s4 _ _ hF3
    generalize upd H3 p4 (.lst (vN (bn ((d.drop 10).take 4)))) = H4 at *
    have hn32 : Sound.fromHigh ((d.drop 6).take 4) < 256 ^ 4 := from_small (by rw [List.length_take]; omega)
    have hc8 : Sound.fromHigh (d.take 1) < 256 ^ 1 := from_small (by rw [List.length_take]; omega)
    have ehd : hdOf d = ⟨⟨Sound.fromHigh (d.take 1), Sound.fromHigh ((d.drop 1).take 1), Sound.fromHigh ((d.drop 2).take 2), 0, Sound.fromHigh ((d.drop 4).take 1), Sound.fromHigh ((d.drop 5).take 1)⟩, Sound.fromHigh ((d.drop 6).take 4), Sound.fromHigh ((d.drop 10).take 4)⟩ := rfl
    rw [ehd] at k
    generalize Sound.fromHigh (d.take 1) = c at *
    generalize Sound.fromHigh ((d.drop 1).take 1) = de at *
    generalize Sound.fromHigh ((d.drop 2).take 2) = bl at *
    generalize Sound.fromHigh ((d.drop 4).take 1) = gr at *
    generalize Sound.fromHigh ((d.drop 5).take 1) = sp at *
    generalize Sound.fromHigh ((d.drop 6).take 4) = n at *
    generalize Sound.fromHigh ((d.drop 10).take 4) = t at *
    have hok : (Sound.formOf [c, de, bl, 4, gr, sp]).isSome = (⟨c, de, bl, 0, gr, sp⟩ : Sound.Form).ok := by
      rw [← eager_ok ⟨c, de, bl, 0, gr, sp⟩ rfl]
      unfold Sound.formOf Sound.eager
      simp only
      cases (⟨c, de, bl, 4, gr, sp⟩ : Sound.Form).ok <;> rfl
    have hmay : Sound.mayHead ⟨⟨c, de, bl, 0, gr, sp⟩, n, t⟩ = ((⟨c, de, bl, 0, gr, sp⟩ : Sound.Form).ok && (decide (n * c ≤ 2048) && (decide (6 ≤ t) && decide (t ≤ 1024)))) := rfl
    rw [hmay] at k
    refine ⟨_, rfl, F, _, rfl, SqL.of hF4, fun H5 s5 => ⟨_, rfl, ?_⟩⟩
    rw [hok]
    have s05 := s04.trans s5
    have hF5 := s5 _ _ hF4
    cases hk : (⟨c, de, bl, 0, gr, sp⟩ : Sound.Form).ok with
    | false =>
      rw [hk, if_neg (by simp)] at k
      exact iteT (iteT (k _ s05))
    | true =>
      rw [hk, Bool.true_and] at k
      refine iteF ⟨_, rfl, _, rfl, F, _, _, _, rfl, rfl, SqL.of hF5, atI_nat (j := 0) rfl, _, _, rfl, rfl, .inl ⟨by omega, by omega⟩, _, _, rfl, rfl, _, rfl, ?_⟩
      have emul : ((n : Nat) : Int) * ((c : Nat) : Int) = ((n * c : Nat) : Int) := by simp
      dsimp only
      rw [emul]
      refine ite2 (fun c1 => ?_) fun c1 => ?_
      · have c1 : (2048 : Int) < ((n * c : Nat) : Int) := of_decide_eq_true c1
        rw [decide_eq_false (show ¬ n * c ≤ 2048 by omega), if_neg (by simp)] at k
        exact k _ s05
      have c1 : ¬ (2048 : Int) < ((n * c : Nat) : Int) := fun z => c1 (decide_eq_true z)
      rw [decide_eq_true (show n * c ≤ 2048 by omega), Bool.true_and] at k
      refine ⟨_, rfl, _, _, rfl, rfl, _, rfl, ?_⟩
      by_cases c3 : (6 : Int) ≤ ((t : Nat) : Int)
      · rw [decide_eq_true c3]
        refine iteT ⟨_, _, rfl, rfl, _, rfl, ?_⟩
        by_cases c4 : ((t : Nat) : Int) ≤ 1024
        · rw [decide_eq_true c4]
          rw [decide_eq_true (show 6 ≤ t by omega), decide_eq_true (show t ≤ 1024 by omega), if_pos (by rfl)] at k
          refine iteF ⟨_, rfl, fun x dx hx hdx hne => ?_⟩
          have sm : Same H5 (upd (upd H5 dx (.own x)) x (.ins A.c_Form dx [])) := same_made hx hdx
          refine ⟨x, dx, F, _, _, _, _, _, _, rfl, upd_same, sm.seq (SqL.of hF5), rfl, _, rfl, _, rfl, ?_⟩
          rw [upd_made]
          have s6 : Same H5 (upd (upd H5 dx (.own x)) x (.ins A.c_Form dx (fm6 (.int (c : Nat)) (.int (de : Nat)) (.int (bl : Nat)) (.int ((4 : Nat) : Int)) (.int (gr : Nat)) (.int (sp : Nat))))) := same_made hx hdx
          have hx6 : upd (upd H5 dx (.own x)) x (.ins A.c_Form dx (fm6 (.int (c : Nat)) (.int (de : Nat)) (.int (bl : Nat)) (.int ((4 : Nat) : Int)) (.int (gr : Nat)) (.int (sp : Nat)))) x = some (.ins A.c_Form dx (fm6 (.int (c : Nat)) (.int (de : Nat)) (.int (bl : Nat)) (.int ((4 : Nat) : Int)) (.int (gr : Nat)) (.int (sp : Nat)))) := upd_same
          have nx : H x = none := s05.none hx
          show ∀ y dy, _
          intro y dy hy hdy hney
          refine ⟨y, dy, _, _, _, rfl, upd_same, rfl, ?_⟩
          rw [upd_made]
          have s06 := s05.trans s6
          have s7 := same_made (o := .own y) (u := .ins A.c_Head dy (hdf (.ref x) (.int (n : Nat)) (.int (t : Nat)))) hy hdy
          refine k y _ (s06.trans s7) ⟨dy, x, ?_, ⟨dx, ?_⟩⟩
          · rw [newOf_at (s06.none hy), upd_same]
          · rw [newOf_at nx]
            exact s7 _ _ hx6
        · rw [decide_eq_false c4]
          rw [decide_eq_false (show ¬ t ≤ 1024 by omega), Bool.and_false, if_neg (by simp)] at k
          exact iteT (k _ s05)
      · rw [decide_eq_false c3]
        rw [decide_eq_false (show ¬ 6 ≤ t by omega), Bool.false_and, if_neg (by simp)] at k
        exact iteF ⟨_, rfl, iteT (k _ s05)⟩
def headR (B : Sound.Bytes) : Except (Nat × Nat) Sound.Head := if B.length < 8 then .error (1, B.length) else if B.take 8 ≠ Sound.MAGIC then .error (2, 0) else if B.length < 22 then .error (1, B.length) else if Sound.mayHead (Sound.fields B) = false then .error (3, 8)
  else if B.length < 26 then .error (1, B.length) else if Sound.fromHigh ((B.drop 22).take 4) ≠ Sound.crc32 (B.take 22) then .error (4, 22) else .ok (Sound.fields B)
def HeadOut (A : Adr) (H : Hp) (R : Rg) (o : Except (Nat × Nat) Sound.Head) (Q : Sound.Head → Addr → Hp → Prop) (E : XK) : Prop := match o with
  | .ok h => ∀ x H', Same (hide R.r H) H' → RgS A.c_Reading H' R 26 → IsHd A (newOf H H') x h → Q h x H'
  | .error (k, p) => ∀ H', Same (hide R.r H) H' → RgF A.c_Reading H' R k p → E (.ref A.c_Faulty) none H'
def spRHead (K : PySem.W.Frag) (A : Adr) : Sp := fun vs H Q E => ∃ (R : Rg), vs = [.ref R.r] ∧ RgI K H R ∧ RgS A.c_Reading H R 0 ∧ HeadOut A H R (headR R.B) (fun _ x H' => Q (.ref x) H') E
theorem sc_read_head : FnScope ["reading", "place", "head"] ["reading"] (defScope s_read_head) := ⟨rfl, rfl, rfl, by decide +kernel, rfl, by decide +kernel, by decide +kernel⟩
theorem ok_read_head (T : Txt K mg A) : FnOk P w K mg base (CX1 P w) 6 A.f_read_head A.d_read_head ["reading"] (spRHead K A) := by
  refine T.F_read_head.okE sc_read_head (fun vs H Q E h => ?_) (fun cdv Ar outer s H vs Q E hr h => ?_)
  · obtain ⟨R, rfl, _⟩ := h
    rfl
  · obtain ⟨R, rfl, hI, hx, k⟩ := h
    have hr1' : Room 1 _ := hr.mono (by decide)
    have hr3' : Room 3 _ := hr.mono (by decide)
    refine ⟨_, pss_cons (ps_if (pt_cmpR (op_neL hr.units) (pe_meth (pv 0) T.l_Reading T.e_Reading_take (ok_Reading_take T) hr3' T.b_Reading_take .nil passes1 (pa_cons (pe_callB call_len_seq (by rfl) T.z_len PySem.boot_len (pa_cons (pe_gr rfl T.g_MARK_heads) pa_nil)) pa_nil)) (pe_callTy call_list_of rfl T.z_list (by decide +kernel : bootBuiltins "list" = some (.type "list")) (pa_cons (pe_gr rfl T.g_MARK_heads) pa_nil)) (nomark _))
        (pss_one (ps_expr (pe_meth (pv 0) T.l_Reading T.e_Reading_stop_at (ok_Reading_stop_at T) hr1' T.b_Reading_stop_at .nil passes1 (pa_cons (pe_gi rfl T.g_BAD_MARK) (pa_cons pe_int pa_nil))))) pss_nil)
      (pss_cons (ps_set (i := 1) sc_read_head.nd rfl (Or.inl rfl) (pe_fld (pv 0) rfl))
      (pss_cons (ps_set (i := 2) sc_read_head.nd rfl (Or.inl rfl) (pe_call (ok_head_told T) hr3' rfl T.m_head_told T.F_head_told.kp T.b_head_told .nil pass0 (pa_cons (pe_meth (pv 0) T.l_Reading T.e_Reading_take (ok_Reading_take T) hr3' T.b_Reading_take .nil passes1 (pa_cons pe_int pa_nil)) pa_nil)))
      (pss_cons (ps_if (pt_cmpR op_isN (pv 2) pe_non (nomark _)) (pss_one (ps_expr (pe_meth (pv 0) T.l_Reading T.e_Reading_stop_at (ok_Reading_stop_at T) hr1' T.b_Reading_stop_at .nil passes1 (pa_cons (pe_gi rfl T.g_BAD_SHAPE) (pa_cons (pv 1) pa_nil))))) pss_nil)
      (pss_cons (ps_expr (pe_meth (pv 0) T.l_Reading T.e_Reading_seal (ok_Reading_seal T) hr T.b_Reading_seal .nil passes1 (pa_cons pe_int (pa_cons (pe_gi rfl T.g_BAD_HEAD_CHECK) pa_nil))))
      (pss_one (ps_ret (pv 2))))))), ?_⟩
    have hx' := hx
    unfold RgS at hx'
    unfold headR at k
    refine ⟨_, rfl, R.r, R.dr, _, rfl, hx', rfl, A.a_MARK_heads, _, rfl, .inr (T.q_MARK_heads _), R, 0, 8, rfl, hI, hx, ?_⟩
    unfold Rres takeR
    rw [Nat.zero_add]
    by_cases c1 : R.B.length < 8
    · rw [if_pos c1] at k ⊢
      exact k
    rw [if_neg c1] at k ⊢
    dsimp only
    intro H1 s1 hS1 D1 hD1 hx1
    rw [List.drop_zero] at hx1
    refine ⟨A.a_MARK_heads, _, rfl, .inr (T.q_MARK_heads _), fun L hL => ?_⟩
    have s2 := same_new (o := .lst [V.int (83), V.int (75), V.int (69), V.int (69), V.int (80), V.int (1), V.int (13), V.int (10)]) hL
    refine ⟨D1, L, (bn (R.B.take 8)).map (fun (n : Nat) => (n : Int)), (bn Sound.MAGIC).map (fun (n : Nat) => (n : Int)), rfl, rfl, (by rw [← vN_int]; exact s2.seq (SqL.of hx1)), SqL.of upd_same, _, rfl, ?_⟩
    have hS2 : RgS A.c_Reading _ R 8 := s2 _ _ hS1
    have s12 := s1.trans s2
    generalize upd H1 L (.lst [V.int (83), V.int (75), V.int (69), V.int (69), V.int (80), V.int (1), V.int (13), V.int (10)]) = H2 at *
    have hS2' := hS2
    unfold RgS at hS2'
    by_cases c2 : R.B.take 8 = Sound.MAGIC
    case neg =>
      rw [if_pos c2] at k
      rw [decide_eq_false (fun z => c2 (bnI_inj.mp z))]
      exact iteT ⟨_, rfl, R.r, R.dr, _, rfl, hS2', rfl, R.r, R.dr, _, _, _, _, 2, 0, rfl, hS2', k _ (hide_step s12 hide_put) ⟨_, upd_same⟩⟩
    rw [if_neg (fun z => z c2)] at k
    rw [decide_eq_true (bnI_inj.mpr c2)]
    refine iteF ⟨_, rfl, R.r, A.c_Reading, R.dr, _, _, rfl, hS2', T.l_Reading, T.n_Reading_place, rfl, ?_⟩
    refine ⟨_, rfl, R.r, R.dr, _, rfl, hS2', rfl, R, 8, 14, rfl, hI.go s12, hS2, ?_⟩
    unfold Rres takeR
    by_cases c3 : R.B.length < 8 + 14
    · rw [if_pos c3]
      rw [if_pos (show R.B.length < 22 by omega)] at k
      exact fun H' s' hF => k H' (hide_step s12 s') hF
    rw [if_neg c3]
    rw [if_neg (show ¬ R.B.length < 22 by omega)] at k
    dsimp only
    intro H3 s3 hS3 D3 hD3 hx3
    have s13 := hide_step s12 s3
    refine ⟨D3, (R.B.drop 8).take 14, rfl, SqL.of hx3, (by rw [List.length_take, List.length_drop]; omega), ?_⟩
    rw [← fields_eq]
    have sealed : ∀ (x : V) (H4 : Hp) (HQ : Hp → Prop), Same (hide R.r H) H4 → RgS A.c_Reading H4 R 22 → (∀ kk p, headR R.B = .error (kk, p) → ∀ H', Same (hide R.r H) H' → RgF A.c_Reading H' R kk p → E (.ref A.c_Faulty) none H') → True := fun _ _ _ _ _ _ => trivial
    cases hm : Sound.mayHead (Sound.fields R.B) with
    | false =>
      rw [if_neg (by decide)]
      rw [if_pos hm] at k
      intro H4 s4
      have hS4 := s4 _ _ hS3
      refine ⟨_, rfl, rfl, _, rfl, iteT ⟨_, rfl, R.r, R.dr, _, rfl, hS4, rfl, _, rfl, R.r, R.dr, _, _, _, _, 3, 8, rfl, hS4, k _ (hide_step (s13.trans s4) hide_put) ⟨_, upd_same⟩⟩⟩
    | true =>
      rw [if_pos rfl]
      rw [if_neg (by rw [hm]; decide)] at k
      intro x H4 s4 hH
      have hS4 : RgS A.c_Reading H4 R 22 := s4 _ _ hS3
      have hS4' := hS4
      unfold RgS at hS4'
      have s14 := s13.trans s4
      refine ⟨_, rfl, rfl, _, rfl, iteF ⟨_, rfl, R.r, R.dr, _, rfl, hS4', rfl, R, 22, 0, 4, rfl, hI.go s14, hS4, ?_⟩⟩
      unfold Rres sealR
      by_cases c4 : R.B.length < 22 + 4
      · rw [if_pos c4]
        rw [if_pos (show R.B.length < 26 by omega)] at k
        exact fun H' s' hF => k H' (hide_step s14 s') hF
      rw [if_neg c4]
      rw [if_neg (show ¬ R.B.length < 26 by omega)] at k
      rw [List.drop_zero, Nat.sub_zero]
      by_cases c5 : Sound.fromHigh ((R.B.drop 22).take 4) = Sound.crc32 (R.B.take 22)
      · rw [if_neg (fun z => z c5)] at k ⊢
        dsimp only at k ⊢
        intro H5 s5 hS5
        refine ⟨_, rfl, k x H5 (hide_step s14 s5) hS5 (hH.same fun b o e => ?_)⟩
        obtain ⟨e1, e2⟩ := newOf_in e
        have hbr : b ≠ R.r := fun z => by
          unfold RgS at hS3
          rw [z, hS3] at e1; cases e1
        have h0 : H b = none := by
          cases q : H b with
          | none => rfl
          | some u => rw [s13 b u (by rw [hide_ne hbr]; exact q)] at e1; cases e1
        rw [newOf_at h0]
        exact s5 _ _ (by rw [hide_ne hbr]; exact e2)
      · rw [if_pos c5] at k ⊢
        exact fun H' s' hF => k H' (hide_step s14 s') hF
def hgf (r h t s i f n : V) : List (Str × V) := [("reading", r), ("head", h), ("tags", t), ("starts", s), ("index_bytes", i), ("frames_taken", f), ("numbers", n)]
theorem hgf_head (r h t s i f n h' : V) : putF "head" h' (hgf r h t s i f n) = hgf r h' t s i f n := by
  have n1 : ¬ ("reading" : Str) = "head" := by decide
  simp only [hgf, putF, if_neg n1]; rfl
structure Hg where
  p : Addr
  dp : Addr
  t : Addr
  s : V
  i : V
  f : V
  n : V
def HgS (A : Adr) (H : Hp) (G : Hg) (R : Rg) (h : V) : Prop := H G.p = some (.ins A.c_Hearing G.dp (hgf (.ref R.r) h (.ref G.t) G.s G.i G.f G.n))
def spHrI (K : PySem.W.Frag) (A : Adr) : Sp := fun vs H Q _ => ∃ (p dp q : Addr) (B : Sound.Bytes), vs = [.ref p, .ref q] ∧ H p = some (.ins A.c_Hearing dp []) ∧ SqL K H q (vN (bn B)) ∧
  ∀ H' r dr t s i n, Same (hide p H) H' → H r = none → H t = none → HgS A H' ⟨p, dp, t, s, i, .int 0, n⟩ ⟨r, dr, q, B⟩ .non → RgS A.c_Reading H' ⟨r, dr, q, B⟩ 0 → H' t = some (.lst []) → Q .non H'
theorem sc_Hearing_init : FnScope ["self", "data"] ["self", "data"] (defScope s_Hearing_init) := ⟨rfl, rfl, rfl, by decide +kernel, rfl, by decide +kernel, by decide +kernel⟩
theorem put_new {H : Hp} {p b : Addr} {o u : HO} (hb : b ≠ p) (h : H b = some u) : upd H p o b = some u := by rw [upd_ne hb]; exact h
theorem ok_Hearing_init (T : Txt K mg A) : FnOk P w K mg base CX0 3 A.f_Hearing_init A.d_Hearing_init ["self", "data"] (spHrI K A) := by
  refine T.F_Hearing_init.ok sc_Hearing_init (fun vs H Q E h => ?_) (fun cdv Ar outer s H vs Q E hr h => ?_)
  · obtain ⟨p, dp, q, B, rfl, _⟩ := h
    rfl
  · obtain ⟨p, dp, q, B, rfl, hp, hq, k⟩ := h
    refine ⟨_, pss_cons (ps_fld (pv 0) (pe_make T.k_Reading (ok_Reading_init T) hr rfl T.m_Reading T.b_Reading_init .nil pass0 (pa_cons (pv 1) pa_nil)) rfl) (pss_cons (ps_fld (pv 0) pe_non rfl) (pss_cons (ps_fld (pv 0) (pe_lst pa_nil) rfl) (pss_cons (ps_fld (pv 0) (pe_lst pa_nil) rfl) (pss_cons (ps_fld (pv 0) (pe_lst pa_nil) rfl) (pss_cons (ps_fld (pv 0) pe_int rfl) (pss_one (ps_fld (pv 0) (pe_lst pa_nil) rfl))))))), ?_⟩
    refine ⟨_, rfl, fun r dr hr0 hdr hne => ?_⟩
    have sm : Same H (upd (upd H dr (.own r)) r (.ins A.c_Reading dr [])) := same_made hr0 hdr
    refine ⟨r, dr, q, _, rfl, upd_same, sm.seq hq, rfl, ?_⟩
    rw [upd_made]
    have s1 : Same H (upd (upd H dr (.own r)) r (.ins A.c_Reading dr (rgf (.ref q) (.int 0) (.int 0) (.int ((vN (bn B)).length : Nat))))) := same_made hr0 hdr
    have hr1 : upd (upd H dr (.own r)) r (.ins A.c_Reading dr (rgf (.ref q) (.int 0) (.int 0) (.int ((vN (bn B)).length : Nat)))) r = some (.ins A.c_Reading dr (rgf (.ref q) (.int 0) (.int 0) (.int ((vN (bn B)).length : Nat)))) := upd_same
    generalize upd (upd H dr (.own r)) r (.ins A.c_Reading dr (rgf (.ref q) (.int 0) (.int 0) (.int ((vN (bn B)).length : Nat)))) = H1 at *
    have hrp : r ≠ p := fun z => by rw [z, hp] at hr0; cases hr0
    have z0 : (0 : Nat) ≤ sizeLine := Nat.zero_le _
    refine ⟨_, rfl, p, A.c_Hearing, dp, _, rfl, s1 _ _ hp, T.l_Hearing, T.n_Hearing_reading, (by show 0 < 1000; decide), ?_⟩
    refine ⟨_, rfl, p, A.c_Hearing, dp, _, rfl, upd_same, T.l_Hearing, T.n_Hearing_head, (by show 1 < 1000; decide), ?_⟩
    rw [upd_upd]
    generalize hH2 : upd H1 p _ = H2
    have hp2 : H2 p = some (.ins A.c_Hearing dp [("reading", .ref r), ("head", .non)]) := by rw [← hH2]; exact upd_same
    have hr2 : H2 r = some (.ins A.c_Reading dr (rgf (.ref q) (.int 0) (.int 0) (.int ((vN (bn B)).length : Nat)))) := by rw [← hH2]; exact put_new hrp hr1
    have s2 : Same (hide p H) H2 := by rw [← hH2]; exact hide_step (hide_of s1) hide_put
    refine ⟨z0, fun t ht => ⟨_, rfl, p, A.c_Hearing, dp, _, rfl, same_new ht _ _ hp2, T.l_Hearing, T.n_Hearing_tags, (by show 2 < 1000; decide), ?_⟩⟩
    have htp : t ≠ p := fun z => by rw [z, hp2] at ht; cases ht
    have ht0 : H t = none := by
      cases e : H t with
      | none => rfl
      | some u => rw [s2 _ _ (by rw [hide_ne htp]; exact e)] at ht; cases ht
    have htr : t ≠ r := fun z => by rw [z, hr2] at ht; cases ht
    generalize hH3 : upd (upd H2 t (.lst [])) p _ = H3
    have hp3 : H3 p = some (.ins A.c_Hearing dp [("reading", .ref r), ("head", .non), ("tags", .ref t)]) := by rw [← hH3]; exact upd_same
    have hr3 : H3 r = some (.ins A.c_Reading dr (rgf (.ref q) (.int 0) (.int 0) (.int ((vN (bn B)).length : Nat)))) := by rw [← hH3]; exact put_new hrp (same_new ht _ _ hr2)
    have ht3 : H3 t = some (.lst []) := by rw [← hH3]; exact put_new htp upd_same
    have s3 : Same (hide p H) H3 := by rw [← hH3]; exact hide_step (s2.trans (same_new ht)) hide_put
    refine ⟨z0, fun a ha => ⟨_, rfl, p, A.c_Hearing, dp, _, rfl, same_new ha _ _ hp3, T.l_Hearing, T.n_Hearing_starts, (by show 3 < 1000; decide), ?_⟩⟩
    generalize hH4 : upd (upd H3 a (.lst [])) p _ = H4
    have hp4 : H4 p = some (.ins A.c_Hearing dp [("reading", .ref r), ("head", .non), ("tags", .ref t), ("starts", .ref a)]) := by rw [← hH4]; exact upd_same
    have hr4 : H4 r = some (.ins A.c_Reading dr (rgf (.ref q) (.int 0) (.int 0) (.int ((vN (bn B)).length : Nat)))) := by rw [← hH4]; exact put_new hrp (same_new ha _ _ hr3)
    have ht4 : H4 t = some (.lst []) := by rw [← hH4]; exact put_new htp (same_new ha _ _ ht3)
    have s4 : Same (hide p H) H4 := by rw [← hH4]; exact hide_step (s3.trans (same_new ha)) hide_put
    refine ⟨z0, fun b hb => ⟨_, rfl, p, A.c_Hearing, dp, _, rfl, same_new hb _ _ hp4, T.l_Hearing, T.n_Hearing_index_bytes, (by show 4 < 1000; decide), ?_⟩⟩
    generalize hH5 : upd (upd H4 b (.lst [])) p _ = H5
    have hp5 : H5 p = some (.ins A.c_Hearing dp [("reading", .ref r), ("head", .non), ("tags", .ref t), ("starts", .ref a), ("index_bytes", .ref b)]) := by rw [← hH5]; exact upd_same
    have hr5 : H5 r = some (.ins A.c_Reading dr (rgf (.ref q) (.int 0) (.int 0) (.int ((vN (bn B)).length : Nat)))) := by rw [← hH5]; exact put_new hrp (same_new hb _ _ hr4)
    have ht5 : H5 t = some (.lst []) := by rw [← hH5]; exact put_new htp (same_new hb _ _ ht4)
    have s5 : Same (hide p H) H5 := by rw [← hH5]; exact hide_step (s4.trans (same_new hb)) hide_put
    refine ⟨_, rfl, p, A.c_Hearing, dp, _, rfl, hp5, T.l_Hearing, T.n_Hearing_frames_taken, (by show 5 < 1000; decide), ?_⟩
    generalize hH6 : upd H5 p _ = H6
    have hp6 : H6 p = some (.ins A.c_Hearing dp [("reading", .ref r), ("head", .non), ("tags", .ref t), ("starts", .ref a), ("index_bytes", .ref b), ("frames_taken", .int 0)]) := by rw [← hH6]; exact upd_same
    have hr6 : H6 r = some (.ins A.c_Reading dr (rgf (.ref q) (.int 0) (.int 0) (.int ((vN (bn B)).length : Nat)))) := by rw [← hH6]; exact put_new hrp hr5
    have ht6 : H6 t = some (.lst []) := by rw [← hH6]; exact put_new htp ht5
    have s6 : Same (hide p H) H6 := by rw [← hH6]; exact hide_step s5 hide_put
    refine ⟨z0, fun c hc => ⟨_, rfl, p, A.c_Hearing, dp, _, rfl, same_new hc _ _ hp6, T.l_Hearing, T.n_Hearing_numbers, (by show 6 < 1000; decide), ?_⟩⟩
    refine k _ r dr t (.ref a) (.ref b) (.ref c) (hide_step (s6.trans (same_new hc)) hide_put) hr0 ht0 ?_ ?_ (put_new htp (same_new hc _ _ ht6))
    · unfold HgS
      rw [upd_same]
      rfl
    · unfold RgS
      have := put_new (o := .ins A.c_Hearing dp (hgf (.ref r) .non (.ref t) (.ref a) (.ref b) (.int 0) (.ref c))) hrp (same_new (o := .lst []) hc _ _ hr6)
      rw [vN_len, bn_len] at this
      exact this
def spHHead (K : PySem.W.Frag) (A : Adr) : Sp := fun vs H Q E => ∃ (G : Hg) (R : Rg) (h0 : V), vs = [.ref G.p] ∧ HgS A H G R h0 ∧ RgI K H R ∧ RgS A.c_Reading H R 0 ∧
  HeadOut A H R (headR R.B) (fun h x H' => ∀ H'', Same (hide G.p H') H'' → HgS A H'' G R (.ref x) → Q .non H'') E
theorem sc_hear_head : FnScope ["hearing"] ["hearing"] (defScope s_hear_head) := ⟨rfl, rfl, rfl, by decide +kernel, rfl, by decide +kernel, by decide +kernel⟩
theorem ok_hear_head (T : Txt K mg A) : FnOk P w K mg base (CX1 P w) 8 A.f_hear_head A.d_hear_head ["hearing"] (spHHead K A) := by
  refine T.F_hear_head.okE sc_hear_head (fun vs H Q E h => ?_) (fun cdv Ar outer s H vs Q E hr h => ?_)
  · obtain ⟨G, R, h0, rfl, _⟩ := h
    rfl
  · obtain ⟨G, R, h0, rfl, hG, hI, hx, k⟩ := h
    have hr6' : Room 6 _ := hr.mono (by decide)
    refine ⟨_, pss_one (ps_fld (pv 0) (pe_call (ok_read_head T) hr6' rfl T.m_read_head T.F_read_head.kp T.b_read_head .nil passes1 (pa_cons (pe_fld (pv 0) rfl) pa_nil)) rfl), ?_⟩
    have hG' := hG
    unfold HgS at hG'
    refine ⟨_, rfl, G.p, A.c_Hearing, G.dp, _, _, rfl, hG', T.l_Hearing, T.n_Hearing_reading, rfl, R, rfl, hI, hx, ?_⟩
    unfold HeadOut at k ⊢
    cases e : headR R.B with
    | error z => rw [e] at k; exact k
    | ok h =>
      rw [e] at k
      dsimp only at k ⊢
      intro x H1 s1 hS1 hH1
      have hpr : G.p ≠ R.r := fun z => by
        unfold RgS at hx
        rw [z, hx] at hG'
        have e := congrArg List.length (HO.ins.inj (Option.some.inj hG')).2.2
        simp [rgf, hgf] at e
      have hG1 : H1 G.p = some (.ins A.c_Hearing G.dp (hgf (.ref R.r) h0 (.ref G.t) G.s G.i G.f G.n)) := s1 _ _ (by rw [hide_ne hpr]; exact hG')
      refine ⟨_, rfl, G.p, A.c_Hearing, G.dp, _, rfl, hG1, T.l_Hearing, T.n_Hearing_head, (by show 7 < 1000; decide), ?_⟩
      rw [hgf_head]
      exact k x H1 s1 hS1 hH1 _ hide_put upd_same
def spHTags (K : PySem.W.Frag) (A : Adr) : Sp := fun vs H Q E => ∃ (G : Hg) (R : Rg) (x : Addr) (h : Sound.Head), vs = [.ref G.p] ∧ HgS A H G R (.ref x) ∧ IsHd A H x h ∧ RgI K H R ∧ RgS A.c_Reading H R 26 ∧ TgsI A.c_Tag H R.r G.t [] ∧ (6 ≤ h.t ∧ h.t ≤ 1024 ∧ 26 ≤ R.B.length ∧ SqL K (hide G.t (hide R.r H)) R.q (vN (bn R.B))) ∧
  AreaOut A H R G.t (26 + h.t) (Sound.areaOf h.t ((R.B.drop 26).take h.t)) Q E
theorem sc_hear_tags : FnScope ["hearing"] ["hearing"] (defScope s_hear_tags) := ⟨rfl, rfl, rfl, by decide +kernel, rfl, by decide +kernel, by decide +kernel⟩
theorem ok_hear_tags (T : Txt K mg A) : FnOk P w K mg base (CX1 P w) 8 A.f_hear_tags A.d_hear_tags ["hearing"] (spHTags K A) := by
  refine T.F_hear_tags.okE sc_hear_tags (fun vs H Q E h => ?_) (fun cdv Ar outer s H vs Q E hr h => ?_)
  · obtain ⟨G, R, x, h, rfl, _⟩ := h
    rfl
  · obtain ⟨G, R, x, h, rfl, hG, ⟨dx, f, hh1, hh2⟩, hI, hx, ht, hb, k⟩ := h
    refine ⟨_, pss_one (ps_expr (pe_call (ok_read_tags T) hr rfl T.m_read_tags T.F_read_tags.kp T.b_read_tags .nil passes1 (pa_cons (pe_fld (pv 0) rfl) (pa_cons (pe_fld (pe_fld (pv 0) rfl) rfl) (pa_cons (pe_fld (pv 0) rfl) pa_nil))))), ?_⟩
    unfold HgS at hG
    exact ⟨_, rfl, G.p, A.c_Hearing, G.dp, _, _, rfl, hG, T.l_Hearing, T.n_Hearing_reading, rfl, _, rfl, G.p, A.c_Hearing, G.dp, _, _, rfl, hG, T.l_Hearing, T.n_Hearing_head, rfl, x, A.c_Head, dx, _, _, rfl, hh1, T.l_Head, T.n_Head_tags_size, rfl, _, rfl, G.p, A.c_Hearing, G.dp, _, _, rfl, hG, T.l_Hearing, T.n_Hearing_tags, rfl, R, G.t, h.t, rfl, hI, hx, ht, hb, k⟩
theorem tagOne_full {at_ n : Nat} {seen : List Sound.Bytes} {b : Sound.Bytes} (hb : b.length = n + 4) : tagOne at_ n seen b ≠ .inl .more := by
  intro h
  unfold tagOne at h
  simp only at h
  split at h
  · cases h
  · split at h
    · omega
    · split at h
      · cases h
      · rename_i hc
        have hc3 : ¬ n < Sound.fromHigh (b.take 1) + 3 := fun z => hc (.inr (.inr z))
        split at h
        · omega
        · split at h
          · cases h
          · split at h
            · omega
            · split at h
              · cases h
              · split at h
                · omega
                · cases h
theorem items_full : ∀ (k at_ n : Nat) (seen : List Sound.Bytes) (b : Sound.Bytes), b.length = n + 4 → (∀ l, Sound.tagItems k at_ n seen b ≠ (l, .inl .more)) ∧ ∀ l a m r, Sound.tagItems k at_ n seen b = (l, .inr (a, m, r)) → r.length = m + 4
  | 0, at_, n, seen, b, hb => by
    unfold Sound.tagItems
    refine ⟨fun l z => (by cases z), fun l a m r z => ?_⟩
    cases z; exact hb
  | k + 1, at_, n, seen, b, hb => by
    rw [tagItems_one]
    cases e : tagOne at_ n seen b with
    | inl st =>
      dsimp only
      refine ⟨fun l z => ?_, fun l a m r z => by cases z⟩
      cases z
      exact tagOne_full hb e
    | inr z =>
      dsimp only
      obtain ⟨h1, h2⟩ := tagOne_le e
      exact items_full k _ _ _ _ (by rw [List.length_drop]; omega)
theorem area_full {t : Nat} {b : Sound.Bytes} (ht : 6 ≤ t) (hb : b.length = t) : (Sound.areaOf t b).2 ≠ .more := by
  unfold Sound.areaOf
  rw [if_neg (by omega)]
  split
  · intro z; cases z
  · have hi := items_full (Sound.fromHigh (b.take 2)) (Sound.HEAD + 2) (t - 6) [] (b.drop 2) (by rw [List.length_drop]; omega)
    split
    · rename_i l a e
      intro z
      dsimp only at z
      subst z
      exact hi.1 l e
    · split
      · intro z; cases z
      · rw [if_neg (by omega)]
        split <;> (intro z; cases z)
theorem area_len {t : Nat} {b l : _} (h : Sound.areaOf t b = (l, .whole)) : t ≤ b.length := by
  unfold Sound.areaOf at h
  split at h
  · cases h
  · split at h
    · cases h
    · split at h
      · rename_i l' a e
        cases h
        exfalso
        revert e
        generalize Sound.fromHigh (b.take 2) = k
        generalize Sound.HEAD + 2 = a0
        generalize t - 6 = n0
        generalize ([] : List Sound.Bytes) = s0
        generalize b.drop 2 = b0
        induction k generalizing a0 n0 s0 b0 with
        | zero => unfold Sound.tagItems; intro e; cases e
        | succ k ih =>
          rw [tagItems_one]
          cases e1 : tagOne a0 n0 s0 b0 with
          | inl st =>
            intro e
            cases e
            exact tagOne_nw e1
          | inr z => exact ih _ _ _ _
      · split at h
        · cases h
        · split at h
          · cases h
          · omega
def frontS (B : Sound.Bytes) : Option (Sound.Head × List Sound.Bytes) := match headR B with
  | .error _ => none
  | .ok h => match Sound.areaOf h.t ((B.drop 26).take h.t) with
    | (l, .whole) => some (h, l)
    | _ => none
theorem take_cut {B : Sound.Bytes} {N i j : Nat} (h : i + j ≤ N) : ((B.take N).drop i).take j = (B.drop i).take j := by
  rw [List.drop_take, List.take_take, Nat.min_eq_left (by omega)]
theorem fields_take (B : Sound.Bytes) (N : Nat) (h : 22 ≤ N) : Sound.fields (B.take N) = Sound.fields B := by
  unfold Sound.fields
  rw [take_cut (by omega), take_cut (by omega), take_cut (by omega), take_cut (by omega), take_cut (by omega), take_cut (by omega), take_cut (by omega)]
theorem take_lt {B : Sound.Bytes} {N k : Nat} (h : k ≤ N) : (B.take N).length < k ↔ B.length < k := by
  rw [List.length_take]; omega
theorem front_eq (B : Sound.Bytes) : Sound.front B = (frontS B).map fun x => ⟨some x.1, x.2, [], 0⟩ := by
  unfold Sound.front frontS headR Sound.judge
  have hT : (B.take (Sound.HEAD + (Sound.fields B).t)).take 8 = B.take 8 := by rw [List.take_take, Nat.min_eq_left (by unfold Sound.HEAD; omega)]
  have h22 : (B.take (Sound.HEAD + (Sound.fields B).t)).take 22 = B.take 22 := by rw [List.take_take, Nat.min_eq_left (by unfold Sound.HEAD; omega)]
  have hf := fields_take B (Sound.HEAD + (Sound.fields B).t) (by unfold Sound.HEAD; omega)
  have h4 : ((B.take (Sound.HEAD + (Sound.fields B).t)).drop 22).take 4 = (B.drop 22).take 4 := take_cut (by unfold Sound.HEAD; omega)
  have ha : ((B.take (Sound.HEAD + (Sound.fields B).t)).drop Sound.HEAD).take (Sound.fields B).t = (B.drop 26).take (Sound.fields B).t := take_cut (by omega)
  have l8 := take_lt (B := B) (N := Sound.HEAD + (Sound.fields B).t) (k := 8) (by unfold Sound.HEAD; omega)
  have l22 := take_lt (B := B) (N := Sound.HEAD + (Sound.fields B).t) (k := 22) (by unfold Sound.HEAD; omega)
  have l26 := take_lt (B := B) (N := Sound.HEAD + (Sound.fields B).t) (k := Sound.HEAD) (by omega)
  simp only [hT, h22, hf, h4, ha]
  by_cases c1 : B.length < 8
  · rw [if_pos (l8.mpr c1), if_pos c1]; rfl
  rw [if_neg (fun z => c1 (l8.mp z)), if_neg c1]
  by_cases c2 : B.take 8 = Sound.MAGIC
  case neg =>
    have n2 : B.take 8 ≠ Sound.MAGIC := c2
    rw [if_pos n2, if_pos n2]; rfl
  have n2 : ¬ B.take 8 ≠ Sound.MAGIC := fun z => z c2
  rw [if_neg n2, if_neg n2]
  by_cases c3 : B.length < 22
  · rw [if_pos (l22.mpr c3), if_pos c3]; rfl
  rw [if_neg (fun z => c3 (l22.mp z)), if_neg c3]
  cases hm : Sound.mayHead (Sound.fields B) with
  | false =>
    have n3 : false = false := rfl
    rw [if_pos n3, if_pos n3]; rfl
  | true =>
  have n3 : ¬ true = false := by decide
  rw [if_neg n3, if_neg n3]
  by_cases c4 : B.length < 26
  · rw [if_pos (l26.mpr c4), if_pos c4]; rfl
  rw [if_neg (fun z => c4 (l26.mp z)), if_neg c4]
  by_cases c5 : Sound.fromHigh ((B.drop 22).take 4) = Sound.crc32 (B.take 22)
  case neg =>
    have n5 : Sound.fromHigh ((B.drop 22).take 4) ≠ Sound.crc32 (B.take 22) := c5
    rw [if_pos n5, if_pos n5]; rfl
  have n5 : ¬ Sound.fromHigh ((B.drop 22).take 4) ≠ Sound.crc32 (B.take 22) := fun z => z c5
  rw [if_neg n5, if_neg n5]
  have hmay : 6 ≤ (Sound.fields B).t ∧ (Sound.fields B).t ≤ 1024 := by
    unfold Sound.mayHead at hm
    simp only [Bool.and_eq_true, decide_eq_true_eq] at hm
    exact ⟨hm.2.2.1, hm.2.2.2⟩
  dsimp only
  cases e : Sound.areaOf (Sound.fields B).t ((B.drop 26).take (Sound.fields B).t) with
  | mk l st =>
    cases st with
    | fault k p => rfl
    | more =>
      have : ¬ 26 + (Sound.fields B).t ≤ B.length := fun z => by
        have := area_full (t := (Sound.fields B).t) (b := (B.drop 26).take (Sound.fields B).t) hmay.1 (by rw [List.length_take, List.length_drop]; omega)
        rw [e] at this
        exact this rfl
      dsimp only
      rw [if_neg (fun z => this z.1)]
      rfl
    | whole =>
      have hl := area_len e
      rw [List.length_take, List.length_drop] at hl
      have hx : ((B.take (Sound.HEAD + (Sound.fields B).t)).drop (Sound.HEAD + (Sound.fields B).t)) = [] := by
        rw [List.drop_eq_nil_iff, List.length_take]; omega
      dsimp only
      rw [hx, List.take_nil]
      have hi : Sound.indexFault (Sound.framesOf (Sound.fields B).form (Sound.fields B).n) [] = none := by
        unfold Sound.indexFault
        rw [show ([] : Sound.Bytes).length / 3 = 0 from rfl, Nat.min_zero]; rfl
      rw [hi]
      dsimp only
      rw [if_pos (by rw [List.length_take]; omega)]
      dsimp only
      rw [if_pos ⟨by unfold Sound.HEAD; omega, hmay.2⟩]
      rfl
theorem pilK {X : Cx} {K : PySem.W.Frag} {tg l : Expr} {tl : TE} (h : X.K = K) (hl : PE X l tl) : PI X tg l (iList K tl) := by subst h; exact pi_list hl
def tabB (K : PySem.W.Frag) (A : Adr) (f : Addr) (sp : Sp) : Prop := (f = A.f_hear_head ∧ sp = spHHead K A) ∨ (f = A.f_hear_tags ∧ sp = spHTags K A)
def HearOut (A : Adr) (H : Hp) (p : Addr) (o : Option (Sound.Head × List Sound.Bytes)) : Prop := ∃ (G : Hg) (R : Rg) (h : V) (pl : V) (k : Nat) (fp : V), G.p = p ∧ HgS A H G R h ∧ H R.r = some (.ins A.c_Reading R.dr (rgf (.ref R.q) pl (.int (k : Nat)) fp)) ∧ (match o with
  | none => k ≠ 0
  | some (_, l) => k = 0 ∧ TgsI A.c_Tag H R.r G.t l)
def spHeard (K : PySem.W.Frag) (A : Adr) : Sp := fun vs H Q _ => ∃ (q g : Addr) (B : Sound.Bytes), vs = [.ref q, .ref g] ∧ SqL K H q (vN (bn B)) ∧ SqL K H g [.ref A.f_hear_head, .ref A.f_hear_tags] ∧ B.length ≤ 16384 ∧ ∀ p H', Same H H' → HearOut A H' p (frontS B) → Q (.ref p) H'
theorem sc_heard : FnScope ["data", "stages", "hearing", "stage"] ["data", "stages"] (defScope s_heard) := ⟨rfl, rfl, rfl, by decide +kernel, rfl, by decide +kernel, by decide +kernel⟩
theorem hide_keep' {W : Addr} {H H' : Hp} (hW : H W = none) (s : Same H H') : Same H (hide W H') := fun b o e => by rw [hide_ne (ne_of_none e hW)]; exact s b o e
theorem one_fault {at_ n : Nat} {seen : List Sound.Bytes} {b : Sound.Bytes} {k p : Nat} (h : tagOne at_ n seen b = .inl (.fault k p)) : k ≠ 0 := by
  unfold tagOne at h
  simp only at h
  split at h
  · cases h; decide
  · split at h
    · cases h
    · split at h
      · cases h; decide
      · split at h
        · cases h
        · split at h
          · cases h; decide
          · split at h
            · cases h
            · split at h
              · cases h; decide
              · split at h
                · cases h
                · cases h
theorem items_fault : ∀ (j at_ n : Nat) (seen : List Sound.Bytes) (b : Sound.Bytes) (l : List Sound.Bytes) (k p : Nat), Sound.tagItems j at_ n seen b = (l, .inl (.fault k p)) → k ≠ 0
  | 0, at_, n, seen, b, l, k, p, h => by unfold Sound.tagItems at h; cases h
  | j + 1, at_, n, seen, b, l, k, p, h => by
    rw [tagItems_one] at h
    cases e : tagOne at_ n seen b with
    | inl st =>
      rw [e] at h
      cases h
      exact one_fault e
    | inr z =>
      rw [e] at h
      exact items_fault j _ _ _ _ l k p h
theorem area_fault {t : Nat} {b : Sound.Bytes} {l : List Sound.Bytes} {k p : Nat} (h : Sound.areaOf t b = (l, .fault k p)) : k ≠ 0 := by
  unfold Sound.areaOf at h
  split at h
  · cases h
  · split at h
    · cases h; decide
    · split at h
      · rename_i l' a e
        cases h
        exact items_fault _ _ _ _ _ _ _ _ e
      · split at h
        · cases h; decide
        · split at h
          · cases h
          · split at h
            · cases h
            · cases h; decide
theorem head_bad {B : Sound.Bytes} {k p : Nat} (h : headR B = .error (k, p)) : k ≠ 0 := by
  unfold headR at h
  split at h
  · cases h; decide
  · split at h
    · cases h; decide
    · split at h
      · cases h; decide
      · split at h
        · cases h; decide
        · split at h
          · cases h; decide
          · split at h
            · cases h; decide
            · cases h
theorem head_good {B : Sound.Bytes} {h : Sound.Head} (e : headR B = .ok h) : 6 ≤ h.t ∧ h.t ≤ 1024 ∧ 26 ≤ B.length := by
  unfold headR at e
  split at e
  · cases e
  · split at e
    · cases e
    · split at e
      · cases e
      · split at e
        · cases e
        · rename_i hm
          split at e
          · cases e
          · split at e
            · cases e
            · cases e
              have hm : Sound.mayHead (Sound.fields B) = true := by
                cases q : Sound.mayHead (Sound.fields B) with
                | true => rfl
                | false => exact absurd q hm
              unfold Sound.mayHead at hm
              simp only [Bool.and_eq_true, decide_eq_true_eq] at hm
              exact ⟨hm.2.2.1, hm.2.2.2, by omega⟩
theorem ok_heard (T : Txt K mg A) : FnOk P w K mg base CX0 9 A.f_heard A.d_heard ["data", "stages"] (spHeard K A) := by
  refine T.F_heard.ok sc_heard (fun vs H Q E h => ?_) (fun cdv Ar outer s H vs Q E hr h => ?_)
  · obtain ⟨q, g, B, rfl, _⟩ := h
    rfl
  · obtain ⟨q, g, B, rfl, hq, hg, hB, k⟩ := h
    have hr4' : Room 4 _ := hr.mono (by decide)
    refine ⟨_, pss_cons (ps_set (i := 2) sc_heard.nd rfl (Or.inl rfl) (pe_make T.k_Hearing (ok_Hearing_init T) hr4' rfl T.m_Hearing T.b_Hearing_init .nil pass0 (pa_cons (pv 0) pa_nil)))
      (pss_cons (ps_try rfl rfl rfl (fun E pn xe hp ho => pss_one (ps_for (X := Cx.tr _ pn xe) ho rfl (pilK (K := K) rfl (pv 1)) (pg_name (i := 3) sc_heard.nd rfl (Or.inl rfl))
          (pss_one (ps_expr (pe_callV (i := 3) (tab := tabB K A) (pv 3) (fun f sp ht => by
            rcases ht with ⟨rfl, rfl⟩ | ⟨rfl, rfl⟩
            · exact ⟨_, _, ok_hear_head T, T.F_hear_head.kp, T.b_hear_head⟩
            · exact ⟨_, _, ok_hear_tags T, T.F_hear_tags.kp, T.b_hear_tags⟩) hr hp (pa_cons (pv 2) pa_nil))))))
        (clause1 rfl T.x_Faulty rfl T.m_Faulty (fun x ps n _ => pss_one (ps_ret (pv 2)))))
      (pss_one (ps_ret (pv 2)))), ?_⟩
    refine ⟨_, rfl, fun p dp hp0 hdp hne => ?_⟩
    have sm : Same H (upd (upd H dp (.own p)) p (.ins A.c_Hearing dp [])) := same_made hp0 hdp
    refine ⟨p, dp, q, B, rfl, upd_same, sm.seq hq, fun H1 r dr t si ii ni s1 hr0 ht0 hG hS ht1 => ⟨rfl, ?_⟩⟩
    have hrH : H r = none := sm.none hr0
    have htH : H t = none := sm.none ht0
    have sH : Same H H1 := fun b o e => s1 b o (by rw [hide_ne (ne_of_none e hp0)]; exact sm b o e)
    generalize hGd : (⟨p, dp, t, si, ii, .int 0, ni⟩ : Hg) = G at *
    have hGp : G.p = p := by rw [← hGd]
    have hGt : G.t = t := by rw [← hGd]
    generalize hRd : (⟨r, dr, q, B⟩ : Rg) = R at *
    have hRr : R.r = r := by rw [← hRd]
    have hRq : R.q = q := by rw [← hRd]
    have hRB : R.B = B := by rw [← hRd]
    have hG' := hG
    unfold HgS at hG'
    have hS' := hS
    unfold RgS at hS'
    have hpr : G.p ≠ R.r := fun z => by
      rw [z, hS'] at hG'
      have e := congrArg List.length (HO.ins.inj (Option.some.inj hG')).2.2
      simp [rgf, hgf] at e
    have htr : G.t ≠ R.r := fun z => by rw [← hGt, z, hS'] at ht1; cases ht1
    have htp : G.t ≠ G.p := fun z => by rw [← hGt, z, hG'] at ht1; cases ht1
    have hrH' : H R.r = none := by rw [hRr]; exact hrH
    have htH' : H G.t = none := by rw [hGt]; exact htH
    have hpH' : H G.p = none := by rw [hGp]; exact hp0
    have hid2 : ∀ H', Same H H' → Same H (hide G.t (hide R.r H')) := fun H' s' => hide_keep' htH' (hide_keep' hrH' s')
    have hI : RgI K H1 R := ⟨(hide_keep' hrH' sH).seq (by rw [hRq, hRB]; exact hq), by rw [hRB]; exact hB⟩
    have hT0 : TgsI A.c_Tag H1 R.r G.t [] := ⟨[], by rw [hide_ne htr, hGt]; exact ht1, rfl, fun k a e => by simp at e⟩
    refine ⟨_, rfl, g, rfl, ⟨_, sH.seq hg⟩, ?_⟩
    refine for_list (K := K) (a := g) (xs := [.ref A.f_hear_head, .ref A.f_hear_tags]) (fun i σ H' => (∃ v3 : Option V, σ = [some (.ref q), some (.ref g), some (.ref p), v3]) ∧ Same H H' ∧ (i = 0 → H' = H1) ∧
        (i = 1 → ∃ x h, headR B = .ok h ∧ HgS A H' G R (.ref x) ∧ IsHd A H' x h ∧ RgI K H' R ∧ RgS A.c_Reading H' R 26 ∧ TgsI A.c_Tag H' R.r G.t []) ∧
        (i = 2 → ∃ x h l pl, frontS B = some (h, l) ∧ HgS A H' G R (.ref x) ∧ RgS A.c_Reading H' R pl ∧ TgsI A.c_Tag H' R.r G.t l)) ⟨⟨none, rfl⟩, sH, fun _ => rfl, fun z => (by omega), fun z => (by omega)⟩ (fun i σ H' _ ⟨_, s', _⟩ => s'.seq hg) ?_ ?_
    · rintro i x σ H2 hi ⟨⟨v3, rfl⟩, s2, h0, h1, _⟩
      match i, hi with
      | 0, hi =>
        obtain rfl : V.ref A.f_hear_head = x := Option.some.inj hi
        obtain rfl := h0 rfl
        refine ⟨A.f_hear_head, _, rfl, .inl ⟨rfl, rfl⟩, _, rfl, G, R, .non, (by rw [hGp]), hG, hI, hS, ?_⟩
        unfold HeadOut
        rw [hRB]
        cases e : headR B with
        | error z =>
          obtain ⟨kk, pp⟩ := z
          dsimp only
          intro H' s' ⟨pl, hF⟩
          refine ⟨rfl, _, rfl, k p H' ((hide_keep' hrH' s2).trans s') ⟨G, R, .non, pl, kk, _, hGp, s' _ _ (by rw [hide_ne hpr]; exact hG'), hF, ?_⟩⟩
          unfold frontS
          rw [e]
          exact head_bad e
        | ok h =>
          dsimp only
          intro x H' s' hS3 hH3 H'' s'' hG3
          have sA : Same H H' := (hide_keep' hrH' s2).trans s'
          have sB : Same H H'' := (hide_keep' hpH' sA).trans s''
          have hpr2 : Same (hide R.r H2) (hide G.p H') → True := fun _ => trivial
          refine ⟨⟨_, rfl⟩, sB, fun z => (by omega), fun _ => ⟨x, h, rfl, hG3, ?_, ?_, ?_, ?_⟩, fun z => (by omega)⟩
          · refine hH3.same fun b o e => ?_
            obtain ⟨e1, e2⟩ := newOf_in e
            exact s'' b o (by rw [hide_ne (fun z => by rw [z, hG'] at e1; cases e1)]; exact e2)
          · exact ⟨(hide_keep' hrH' sB).seq (by rw [hRq, hRB]; exact hq), by rw [hRB]; exact hB⟩
          · exact s'' _ _ (by rw [hide_ne (Ne.symm hpr)]; exact hS3)
          · refine ⟨[], ?_, rfl, fun k a e => by simp at e⟩
            rw [hide_ne htr]
            refine s'' _ _ ?_
            rw [hide_ne htp]
            exact s' _ _ (by rw [hide_ne htr, hGt]; exact ht1)
      | 1, hi =>
        obtain rfl : V.ref A.f_hear_tags = x := Option.some.inj hi
        obtain ⟨x, h, eh, hG2, hH2, hI2, hS2, hT2⟩ := h1 rfl
        obtain ⟨hb1, hb2, hb3⟩ := head_good eh
        refine ⟨A.f_hear_tags, _, rfl, .inr ⟨rfl, rfl⟩, _, rfl, G, R, x, h, (by rw [hGp]), hG2, hH2, hI2, hS2, hT2, ⟨hb1, hb2, by rw [hRB]; exact hb3, (hid2 H2 s2).seq (by rw [hRq, hRB]; exact hq)⟩, ?_⟩
        have hG2' := hG2
        unfold HgS at hG2'
        have keep : ∀ H', Same (hide G.t (hide R.r H2)) H' → HgS A H' G R (.ref x) ∧ Same H H' := fun H' s' => ⟨s' _ _ (by rw [hide_ne (Ne.symm htp), hide_ne hpr]; exact hG2'), (hid2 H2 s2).trans s'⟩
        unfold AreaOut
        rw [hRB]
        cases ea : Sound.areaOf h.t ((B.drop 26).take h.t) with
        | mk l st =>
          cases st with
          | whole =>
            have efr : frontS B = some (h, l) := by unfold frontS; rw [eh]; dsimp only; rw [ea]
            intro H' s' hS3 hT3
            obtain ⟨k1, k2⟩ := keep H' s'
            exact ⟨⟨_, rfl⟩, k2, fun z => (by omega), fun z => (by omega), fun _ => ⟨x, h, l, _, efr, k1, hS3, hT3⟩⟩
          | more =>
            have efr : frontS B = none := by unfold frontS; rw [eh]; dsimp only; rw [ea]
            intro H' s' ⟨pl, hF⟩ hT3
            obtain ⟨k1, k2⟩ := keep H' s'
            exact ⟨rfl, _, rfl, k p H' k2 ⟨G, R, _, pl, 1, _, hGp, k1, hF, by rw [efr]; exact Nat.one_ne_zero⟩⟩
          | fault kk pp =>
            have efr : frontS B = none := by unfold frontS; rw [eh]; dsimp only; rw [ea]
            intro H' s' ⟨pl, hF⟩ hT3
            obtain ⟨k1, k2⟩ := keep H' s'
            refine ⟨rfl, _, rfl, k p H' k2 ⟨G, R, _, pl, kk, _, hGp, k1, hF, ?_⟩⟩
            rw [efr]
            exact area_fault ea
      | i + 2, hi => simp at hi
    · rintro σ H2 ⟨⟨v3, rfl⟩, s2, _, _, h2⟩
      obtain ⟨x, h, l, pl, efr, hG2, hS2, hT2⟩ := h2 rfl
      refine ⟨_, rfl, k p H2 s2 ⟨G, R, _, _, 0, _, hGp, hG2, hS2, ?_⟩⟩
      rw [efr]
      exact ⟨rfl, hT2⟩
theorem sc_hear_beginning : FnScope ["data"] ["data"] (defScope s_hear_beginning) := ⟨rfl, rfl, rfl, by decide +kernel, rfl, by decide +kernel, by decide +kernel⟩
def spBegin (K : PySem.W.Frag) (A : Adr) : Sp := fun vs H Q _ => ∃ (q : Addr) (B : Sound.Bytes), vs = [.ref q] ∧ SqL K H q (vN (bn B)) ∧ B.length ≤ 16384 ∧ ∀ p H', Same H H' → HearOut A H' p (frontS B) → Q (.ref p) H'
theorem ok_hear_beginning (T : Txt K mg A) : FnOk P w K mg base CX0 10 A.f_hear_beginning A.d_hear_beginning ["data"] (spBegin K A) := by
  refine T.F_hear_beginning.ok sc_hear_beginning (fun vs H Q E h => ?_) (fun cdv Ar outer s H vs Q E hr h => ?_)
  · obtain ⟨q, B, rfl, _⟩ := h
    rfl
  · obtain ⟨q, B, rfl, hq, hB, k⟩ := h
    refine ⟨_, pss_one (ps_ret (pe_call (ok_heard T) hr rfl T.m_heard T.F_heard.kp T.b_heard .nil pass0 (pa_cons (pv 0) (pa_cons (pe_lst (pa_cons (pe_gr rfl T.m_hear_head) (pa_cons (pe_gr rfl T.m_hear_tags) pa_nil))) pa_nil)))), ?_⟩
    refine ⟨_, rfl, by rw [sizeLine_eq]; show 2 ≤ _; omega, fun L hL => ?_⟩
    have s1 := same_new (o := .lst [V.ref A.f_hear_head, V.ref A.f_hear_tags]) hL
    exact ⟨q, L, B, rfl, s1.seq hq, SqL.of upd_same, hB, fun p H' s' ho => k p H' (s1.trans s') ho⟩
theorem gives_vals (b : Sound.Bytes) : (Sound.gives b).map V.int = V.int ((vN (bn b)).length : Nat) :: vN (bn b) := by
  unfold Sound.gives Sound.nats
  rw [vN_len, bn_len]
  simp only [List.map_cons, List.map_map]
  unfold vN bn
  rw [List.map_map]; rfl
theorem items_len (N : Nat) : ∀ (j at_ n : Nat) (seen : List Sound.Bytes) (b : Sound.Bytes) (l : List Sound.Bytes) (st : _), b.length ≤ N → (∀ x ∈ seen, x.length ≤ N) → Sound.tagItems j at_ n seen b = (l, st) → ∀ x ∈ l, x.length ≤ N
  | 0, at_, n, seen, b, l, st, hb, hs, h => by unfold Sound.tagItems at h; cases h; exact hs
  | j + 1, at_, n, seen, b, l, st, hb, hs, h => by
    rw [tagItems_one] at h
    cases e : tagOne at_ n seen b with
    | inl st =>
      rw [e] at h
      cases h
      exact hs
    | inr z =>
      rw [e] at h
      refine items_len N j _ _ _ _ l st (by rw [List.length_drop]; omega) (fun x hx => ?_) h
      rcases List.mem_append.mp hx with hx | hx
      · exact hs x hx
      · rw [List.mem_singleton.mp hx, List.length_take]; omega
theorem area_small {t N : Nat} {b : Sound.Bytes} {l : List Sound.Bytes} {st : Sound.Stand} (hb : b.length ≤ N) (h : Sound.areaOf t b = (l, st)) : ∀ x ∈ l, x.length ≤ N := by
  unfold Sound.areaOf at h
  split at h
  · cases h; intro x hx; cases hx
  · split at h
    · cases h; intro x hx; cases hx
    · split at h
      · rename_i l' a e
        cases h
        exact items_len N _ _ _ _ _ _ _ (by rw [List.length_drop]; omega) (by simp) e
      · rename_i l' a n' r e
        have hl := items_len N _ _ _ _ _ _ _ (by rw [List.length_drop]; omega) (by simp) e
        split at h
        · cases h; exact hl
        · split at h
          · cases h; exact hl
          · split at h
            · cases h; exact hl
            · cases h; exact hl
theorem front_small {B : Sound.Bytes} {h : Sound.Head} {l : List Sound.Bytes} (e : frontS B = some (h, l)) : ∀ x ∈ l, x.length ≤ B.length := by
  unfold frontS at e
  split at e
  · cases e
  · split at e
    · rename_i l' ea
      cases e
      exact area_small (by rw [List.length_take, List.length_drop]; omega) ea
    · cases e
def findS (B key : Sound.Bytes) : List Int := match frontS B with
  | none => [-2]
  | some (_, l) => match l.findIdx? fun (t : Sound.Bytes) => Sound.keyOf t == key with
    | none => [-3]
    | some i => (i : Int) :: Sound.gives ((l.getD i []).drop (key.length + 3))
theorem find_def (file key : List Int) (hl : file.length ≤ 16384) : PyWqaubg.find file key = findS (bytesI file) (bytesI key) := by
  have e : PyWqaubg.find file key = if Sound.tooLong (bytesI file) = true then [-1] else (match Sound.front (bytesI file) with
    | none => [-2]
    | some w => match w.tags.findIdx? fun (t : Sound.Bytes) => Sound.keyOf t == bytesI key with
      | none => [-3]
      | some i => (i : Int) :: Sound.gives ((w.tags.getD i []).drop ((bytesI key).length + 3))) := rfl
  rw [e, notLong hl, if_neg (by decide), front_eq]
  unfold findS
  cases frontS (bytesI file) with
  | none => rfl
  | some x => rfl
def spFind (K : PySem.W.Frag) : Sp := fun vs H Q _ => ∃ (q r : Addr) (file key : List Int), vs = [.ref q, .ref r] ∧ SqL K H q (file.map V.int) ∧ SqL K H r (key.map V.int) ∧ (file.length ≤ 16384 ∧ (∀ x ∈ file, 0 ≤ x ∧ x ≤ 255)) ∧ (key.length ≤ 64 ∧ (∀ x ∈ key, 0 ≤ x ∧ x ≤ 255)) ∧
  ∀ (H' : Hp) (p : Addr), H' p = some (.lst ((PyWqaubg.find file key).map V.int)) → Q (.ref p) H'
theorem sc_find : FnScope ["file", "key", "heard", "place", "tag"] ["file", "key"] (defScope s_find) := ⟨rfl, rfl, rfl, by decide +kernel, rfl, by decide +kernel, by decide +kernel⟩
theorem ok_find (T : Txt K mg A) : FnOk P w K mg base CX0 11 A.f_find A.d_find ["file", "key"] (spFind K) := by
  refine T.F_find.ok sc_find (fun vs H Q E h => ?_) (fun cdv Ar outer s H vs Q E hr h => ?_)
  · obtain ⟨q, r, file, key, rfl, _⟩ := h
    rfl
  · obtain ⟨q, r, file, key, rfl, hq, hr', ⟨hfl, hfb⟩, ⟨hkl, hkb⟩, k⟩ := h
    have hr1' : Room 1 _ := hr.mono (by decide)
    refine ⟨_, pss_cons (ps_set (i := 2) sc_find.nd rfl (Or.inl rfl) (pe_call (ok_hear_beginning T) hr rfl T.m_hear_beginning T.F_hear_beginning.kp T.b_hear_beginning .nil pass0 (pa_cons (pv 0) pa_nil)))
      (pss_cons (ps_if (pt_cmpR op_ne (pe_fld (pe_fld (pv 2) rfl) rfl) pe_int (nomark _)) (pss_one (ps_ret (pe_lst (pa_cons (pe_un un_neg pe_int) pa_nil)))) pss_nil)
      (pss_cons (ps_for PassesOwn.never rfl (pi_enum rfl T.z_enumerate (pa_cons (pe_fld (pv 2) rfl) pa_nil)) (pgtK (K := K) (n := 2) rfl rfl (pgs_cons (pg_name (i := 3) sc_find.nd rfl (Or.inl rfl)) (pgs_cons (pg_name (i := 4) sc_find.nd rfl (Or.inl rfl)) pgs_nil)))
        (pss_one (ps_if (pt_cmpR (op_eqL hr.units) (pe_fld (pv 4) rfl) (pv 1) (nomark _)) (pss_one (ps_ret (pe_op op_catS (pe_lst (pa_cons (pv 3) pa_nil)) (pe_call (ok_counted T) hr1' rfl T.m_counted T.F_counted.kp T.b_counted .nil pass0 (pa_cons (pe_fld (pv 4) rfl) pa_nil))))) pss_nil)))
      (pss_one (ps_ret (pe_lst (pa_cons (pe_un un_neg pe_int) pa_nil)))))), ?_⟩
    rw [bytesI_vals hfb] at hq
    rw [find_def file key hfl] at k
    have hkeyv : key.map V.int = vN (bn (bytesI key)) := bytesI_vals hkb
    have hB : (bytesI file).length ≤ 16384 := by rw [bytesI_len]; exact hfl
    generalize bytesI file = B at *
    have one1 : (1 : Nat) ≤ sizeLine := by rw [sizeLine_eq]; omega
    refine ⟨_, rfl, q, B, rfl, hq, hB, fun p H1 s1 ⟨G, R, hv, pl, kk, fp, hGp, hG, hR, ho⟩ => ?_⟩
    unfold HgS at hG
    rw [hGp] at hG
    refine ⟨_, rfl, p, A.c_Hearing, G.dp, _, _, rfl, hG, T.l_Hearing, T.n_Hearing_reading, rfl, R.r, A.c_Reading, R.dr, _, _, rfl, hR, T.l_Reading, T.n_Reading_fault, rfl, rfl, _, rfl, ?_⟩
    unfold findS at k
    cases e : frontS B with
    | none =>
      rw [e] at ho k
      have ho : kk ≠ 0 := ho
      rw [decide_eq_false (fun z => ho (by have := V.int.inj z; omega))]
      exact iteT ⟨2, rfl, one1, fun D hD => k _ D (by rw [upd_same]; rfl)⟩
    | some y =>
      obtain ⟨h, l⟩ := y
      rw [e] at ho k
      obtain ⟨hk0, as, ha1, ha2, ha3⟩ := ho
      dsimp only at k
      rw [decide_eq_true (by rw [hk0]; rfl)]
      have hD1 : H1 G.t = some (.lst (as.map V.ref)) := (hide_some ha1).1
      have hit : ∀ (i : Nat) (a : Addr), as[i]? = some a → IsTg A.c_Tag H1 a (l.getD i []) := fun i a ee => (ha3 i a ee).same ((hide_same _ _).trans (hide_same _ _))
      refine iteF ⟨_, rfl, p, A.c_Hearing, G.dp, _, _, rfl, hG, T.l_Hearing, T.n_Hearing_tags, rfl, G.t, _, rfl, SqL.of hD1, ?_⟩
      refine for_gen (J := Ite K G.t) l.length (fun i σ H' => ∃ (v3 v4 : Option V), Same H1 H' ∧ (∀ j, j < i → (Sound.keyOf (l.getD j []) == bytesI key) = false) ∧ σ = [some (.ref q), some (.ref r), some (.ref p), v3, v4]) ⟨none, none, Same.refl _, fun j hj => by omega, rfl⟩ ?_ ?_ ?_ ?_
      · rintro i σ H2 hi ⟨v3, v4, s2, hz, rfl⟩
        obtain ⟨a, ha, _⟩ := ref_get (as := as) (i := i) (by omega)
        exact ⟨_, _, s2.seq (SqL.of hD1), ha⟩
      · rintro σ H2 ⟨v3, v4, s2, hz, rfl⟩
        exact ⟨_, s2.seq (SqL.of hD1), by rw [List.length_map]; omega⟩
      · rintro i σ H2 x H2' hi ⟨v3, v4, s2, hz, rfl⟩ ⟨T1, x1, rfl, hT1, rfl, hzz⟩
        obtain ⟨a, rfl, ha⟩ := ref_get' (hzz _ (s2.seq (SqL.of hD1)))
        have sT := same_new (o := .tup [.int (i : Nat), .ref a]) hT1
        obtain ⟨da, ka, va, hq1, hq2, hq3⟩ := (hit i a ha).same (s2.trans sT)
        have s03 := s1.trans (s2.trans sT)
        refine ⟨T1, _, rfl, SqT.of upd_same, rfl, _, _, rfl, _, _, rfl, rfl, ?_⟩
        refine ⟨_, rfl, a, A.c_Tag, da, _, _, rfl, hq1, T.l_Tag, T.n_Tag_key, rfl, _, rfl, ka, r, (bn (Sound.keyOf (l.getD i []))).map (fun (n : Nat) => (n : Int)), key, rfl, rfl, (by rw [← vN_int]; exact SqL.of hq2), s03.seq hr', _, rfl, ?_⟩
        have hkk : key = (bn (bytesI key)).map fun (n : Nat) => (n : Int) := by
          have h1 : key.map V.int = ((bn (bytesI key)).map fun (n : Nat) => (n : Int)).map V.int := by rw [hkeyv, vN_int]
          exact (List.map_inj_right fun _ _ h => V.int.inj h).mp h1
        by_cases c : Sound.keyOf (l.getD i []) = bytesI key
        · rw [decide_eq_true (by rw [c]; exact hkk.symm)]
          have hsome : (l.findIdx? fun (t : Sound.Bytes) => Sound.keyOf t == bytesI key) = some i := by
            rw [List.findIdx?_eq_some_iff_getElem]
            have eg : ∀ (j : Nat) (hj : j < l.length), l.getD j [] = l[j] := fun j hj => by rw [List.getD_eq_getElem?_getD, List.getElem?_eq_getElem hj]; rfl
            refine ⟨hi, ?_, fun j hj => ?_⟩
            · rw [← eg i hi]; exact beq_iff_eq.mpr c
            · rw [← eg j (by omega), hz j hj]; decide
          rw [hsome] at k
          dsimp only at k
          refine iteT ⟨_, rfl, one1, fun D hD => ?_⟩
          have sD := same_new (o := .lst [V.int (i : Nat)]) hD
          have hva : valOf (l.getD i []) = (l.getD i []).drop ((bytesI key).length + 3) := by unfold valOf; rw [c]
          rw [hva] at hq3
          have hvl : ((l.getD i []).drop ((bytesI key).length + 3)).length ≤ 100000 := by
            have := front_small e (l.getD i []) (by rw [List.getD_eq_getElem?_getD, List.getElem?_eq_getElem hi]; exact List.getElem_mem hi)
            rw [List.length_drop]; omega
          refine ⟨_, rfl, a, A.c_Tag, da, _, _, rfl, sD _ _ hq1, T.l_Tag, T.n_Tag_value, rfl, va, _, rfl, SqL.of (sD _ _ hq3), (by rw [vN_len, bn_len]; omega), fun D2 H3 hD2 s3 hx3 => ?_⟩
          refine ⟨D, D2, _, _, rfl, rfl, SqL.of (s3 _ _ upd_same), SqL.of hx3, (by rw [sizeLine_eq]; simp only [List.length_cons, List.length_nil]; rw [vN_len, bn_len]; omega), fun D4 hD4 => k _ D4 ?_⟩
          rw [upd_same, List.map_cons, gives_vals]
          rfl
        · rw [decide_eq_false (fun z => c (bnI_inj.mp (z.trans hkk)))]
          refine iteF ⟨_, _, s2.trans sT, fun j hj => ?_, rfl⟩
          by_cases hji : j = i
          · rw [hji]; exact beq_eq_false_iff_ne.mpr c
          · exact hz j (by omega)
      · rintro σ H2 ⟨v3, v4, s2, hz, rfl⟩
        have hnone : (l.findIdx? fun (t : Sound.Bytes) => Sound.keyOf t == bytesI key) = none := by
          rw [List.findIdx?_eq_none_iff]
          intro t ht
          obtain ⟨j, hj, rfl⟩ := List.getElem_of_mem ht
          have := hz j hj
          rw [List.getD_eq_getElem?_getD, List.getElem?_eq_getElem hj] at this
          exact this
        rw [hnone] at k
        exact ⟨3, rfl, one1, fun D hD => k _ D (by rw [upd_same]; rfl)⟩
end
end Wg
open PySem PySem.W PyProof.Rows
set_option maxRecDepth 100000 in
set_option maxHeartbeats 0 in
theorem PySem.Challenge.cw_soundkeeping_s09_find_holds : PySem.Challenge.rw_soundkeeping_s09_find.Holds := by
  w_on; k_headS; (case hw => exact ⟨[.list [], .list []], by decide +kernel, by decide +kernel⟩)
  k_fillS
  refine L2.walk_specK (r := PySem.Challenge.rw_soundkeeping_s09_find) (k := 11) (CX := L2.CX0) (ps := ["file", "key"]) (sp := Wg.spFind) (by decide +kernel) rfl rfl ⟨rfl, by decide, by decide⟩ (fun w h Y => PySem.W.kIn_of Y) ?F ?S (fun _ _ _ _ z => z)
  case F =>
    intro w mg fa h Y KX G hmg
    have T : ∃ A, Wg.Txt (L2.KOf KX) mg A := by
      dsimp only [L2.KOf]
      apply Wg.txt_mk KX G
      all_goals first | k_is | k_exc | rfl
    obtain ⟨A, T⟩ := T
    have e0 := hmg.symm.trans T.m_find
    cases e0
    exact ⟨A.d_find, T.entry, fun base _ _ => Wg.ok_find T⟩
  case S =>
    intro K H xs a hO hwi hask hx
    obtain ⟨x0, x1, u⟩ := a
    cases hx with
    | cons h0 r0 =>
      cases r0 with
      | cons h1 r1 =>
        cases r1
        cases h0 with
        | lst s0 d0 =>
          have e0 := L2.ints_dw x0 _ d0
          subst e0
          cases h1 with
          | lst s1 d1 =>
            have e1 := L2.ints_dw x1 _ d1
            subst e1
            have q : ((Codec.inLen 0 16384 x0 && x0.all (Codec.inInt 0 255)) && ((Codec.inLen 0 64 x1 && x1.all (Codec.inInt 0 255)) && true)) = true := hwi
            simp only [Bool.and_eq_true] at q
            obtain ⟨⟨l0, b0⟩, ⟨l1, b1⟩, _⟩ := q
            have l0 := (Codec.inNat_iff.mp l0).2
            have b0 := fun z hz => Codec.inInt_iff.mp (List.all_eq_true.mp b0 z hz)
            have l1 := (Codec.inNat_iff.mp l1).2
            have b1 := fun z hz => Codec.inInt_iff.mp (List.all_eq_true.mp b1 z hz)
            exact ⟨_, _, x0, x1, rfl, s0, s1, ⟨l0, b0⟩, ⟨l1, b1⟩, fun H' p hp => .lst (L2.SqL.of hp) (L2.dw_ints _)⟩
#print axioms PySem.Challenge.cw_soundkeeping_s09_find_holds
