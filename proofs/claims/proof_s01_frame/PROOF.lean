import PyProof.Rows.All
import Wide.All
import OpenK.AllK
import Wide.FinOn
import PyProof.EqAt
import PyProof.EqKinds
import PyProof.TupleCall
import KE.BitLaws
import Open.SpecLaws
import KE.OsHead
import KE.OsGo
import PySem.Challenge.RW_soundkeeping_s01_frame
set_option Elab.async false
set_option linter.all false
set_option maxRecDepth 100000
namespace L2
open PySem PySem.Spec PyProof.Rows
abbrev Key := Sum Int Str
def keyIs : Key → Value → Bool
  | .inl k, v => Value.isInt k v
  | .inr x, v => Value.isStrOf x v
def keyH (w : World) : Key → Int
  | .inl k => hashInt k
  | .inr x => hashStr w x
theorem keyIs_shape : ∀ {k : Key} {v : Value}, keyIs k v = true → (∃ i t, k = Sum.inl i ∧ v = Value.int i t) ∨ (∃ x t, k = Sum.inr x ∧ v = Value.str x t)
  | .inl i, v, h => by
    obtain ⟨t, e⟩ := Value.isInt_shape (k := i) (v := v) h
    exact .inl ⟨i, t, rfl, e⟩
  | .inr x, v, h => by
    obtain ⟨t, e⟩ := Value.isStrOf_shape (x := x) (v := v) h
    exact .inr ⟨x, t, rfl, e⟩
theorem key_ll (a b : Int) : decide ((Sum.inl a : Key) = Sum.inl b) = (a == b) := by
  by_cases e : a = b
  · subst e; simp
  · have h : ¬ (Sum.inl a : Key) = Sum.inl b := fun q => e (Sum.inl.inj q)
    rw [decide_eq_false h]
    exact (beq_eq_false_iff_ne.mpr e).symm
theorem key_rr (a b : Str) : decide ((Sum.inr a : Key) = Sum.inr b) = decide (a = b) := by
  by_cases e : a = b
  · subst e; simp
  · have h : ¬ (Sum.inr a : Key) = Sum.inr b := fun q => e (Sum.inr.inj q)
    rw [decide_eq_false h, decide_eq_false e]
theorem key_lr (a : Int) (b : Str) : decide ((Sum.inl a : Key) = Sum.inr b) = false := decide_eq_false (fun q => nomatch q)
theorem key_rl (a : Str) (b : Int) : decide ((Sum.inr a : Key) = Sum.inl b) = false := decide_eq_false (fun q => nomatch q)
def mixKind (prog : Program) (w : World) : PySem.KeyKind prog w Key where
  is := keyIs
  hash := keyH w
  inj := fun v a b ha hb => by
    rcases keyIs_shape ha with ⟨i, t, rfl, rfl⟩ | ⟨x, t, rfl, rfl⟩
    · rcases keyIs_shape hb with ⟨j, u, rfl, e⟩ | ⟨y, u, rfl, e⟩
      · injection e with e1 _; rw [e1]
      · exact nomatch e
    · rcases keyIs_shape hb with ⟨j, u, rfl, e⟩ | ⟨y, u, rfl, e⟩
      · exact nomatch e
      · injection e with e1 _; rw [e1]
  byValue := fun k v h => by
    rcases keyIs_shape h with ⟨i, t, rfl, rfl⟩ | ⟨x, t, rfl, rfl⟩ <;> rfl
  pyHash := fun hv h => by
    rcases keyIs_shape hv with ⟨i, t, rfl, rfl⟩ | ⟨x, t, rfl, rfl⟩
    · exact wpAny_pyHash_int h
    · exact wpAny_pyHash_str h
  eqBool := fun hu hv h => by
    rcases keyIs_shape hu with ⟨i, t, rfl, rfl⟩ | ⟨x, t, rfl, rfl⟩
    · rcases keyIs_shape hv with ⟨j, u, rfl, rfl⟩ | ⟨y, u, rfl, rfl⟩
      · rw [key_ll] at h; exact wpAny_eqBool_int h
      · rw [key_lr] at h; exact SeqAt.EqAt.int_str i t y u _ _ _ _ h
    · rcases keyIs_shape hv with ⟨j, u, rfl, rfl⟩ | ⟨y, u, rfl, rfl⟩
      · rw [key_rl] at h; exact SeqAt.EqAt.str_int x t j u _ _ _ _ h
      · rw [key_rr] at h; exact wpAny_eqBool_str h
  «strs» := fun k x t v h => by
    rcases keyIs_shape h with ⟨i, u, rfl, e⟩ | ⟨y, u, rfl, e⟩
    · exact nomatch e
    · injection e with e1 _
      subst e1
      cases v <;> rfl
end L2
namespace L2
open PySem PySem.Spec PyProof.Rows
inductive V where
  | non | bl (b : Bool) | int (i : Int) | str (x : Str) | byt (b : Array UInt8) | flt (b : UInt64) | ref (a : Addr) | ty (n : String)
  deriving DecidableEq
def RelV : V → Value → Prop
  | .non, u => u = Value.none
  | .bl b, u => u = Value.bool b
  | .int i, u => ∃ t, u = Value.int i t
  | .str x, u => ∃ t, u = Value.str x t
  | .byt b, u => ∃ t, u = Value.bytes b t
  | .flt b, u => ∃ t, u = Value.float b t
  | .ref a, u => u = Value.ref a
  | .ty n, u => u = Value.type n
abbrev Vals : List V → List Value → Prop := Paired RelV
theorem Vals.length {xs : List V} {us : List Value} (r : Vals xs us) : xs.length = us.length := Paired.length r
theorem Vals.get : ∀ {xs : List V} {us : List Value} {i : Nat} {x : V}, Vals xs us → xs[i]? = some x → ∃ u, us[i]? = some u ∧ RelV x u
  | _, _, _, _, .nil, e => by simp at e
  | _, _, 0, _, .cons r _, e => by simp at e; subst e; exact ⟨_, rfl, r⟩
  | _, _, i + 1, x, .cons _ t, e => by
    obtain ⟨u, h1, h2⟩ := Vals.get (i := i) (x := x) t (by simpa using e)
    exact ⟨u, by simpa using h1, h2⟩
theorem Vals.append : ∀ {xs ys : List V} {us ws : List Value}, Vals xs us → Vals ys ws → Vals (xs ++ ys) (us ++ ws)
  | _, _, _, _, .nil, s => s
  | _, _, _, _, .cons r t, s => .cons r (Vals.append t s)
theorem Vals.take : ∀ {xs : List V} {us : List Value} (n : Nat), Vals xs us → Vals (xs.take n) (us.take n)
  | _, _, 0, _ => .nil
  | _, _, _ + 1, .nil => .nil
  | _, _, n + 1, .cons r t => .cons r (Vals.take n t)
theorem Vals.drop : ∀ {xs : List V} {us : List Value} (n : Nat), Vals xs us → Vals (xs.drop n) (us.drop n)
  | _, _, 0, r => r
  | _, _, _ + 1, .nil => .nil
  | _, _, n + 1, .cons _ t => Vals.drop n t
def RelO : Option V → Option Value → Prop
  | some v, some u => RelV v u
  | none, none => True
  | _, _ => False
def KV {κ : Type} : List (κ × V) → List (κ × Value) → Prop := Paired fun (p : κ × V) (q : κ × Value) => p.1 = q.1 ∧ RelV p.2 q.2
def kV : Key → V
  | .inl i => .int i
  | .inr x => .str x
inductive HO where
  | lst (xs : List V)
  | tup (xs : List V)
  | dK (kvs : List (Key × V)) | dT (kvs : List (List Key × V))
  | set (S : Int → Bool) (n : Nat)
  | ins (C dx : Addr) (fs : List (Str × V))
  | own (x : Addr)
  | xd (fs : List (Str × V))
  | met (f x : Addr)
  | rng (lo hi : Int)
  | frz (o : Obj) (u : HO)
  | tbl (ps : Array Value)
  | ext (φ : Heap → Prop)
abbrev Hp := Addr → Option HO
def upd (H : Hp) (a : Addr) (o : HO) : Hp := fun b => if b = a then some o else H b
theorem upd_same {H : Hp} {a : Addr} {o : HO} : upd H a o a = some o := by unfold upd; rw [if_pos rfl]
theorem upd_ne {H : Hp} {a b : Addr} {o : HO} (h : b ≠ a) : upd H a o b = H b := by unfold upd; rw [if_neg h]
theorem upd_upd {H : Hp} {a : Addr} {o u : HO} : upd (upd H a o) a u = upd H a u := by
  funext b; unfold upd; split <;> rfl
theorem ne_of {H : Hp} {a b : Addr} {o u : HO} (h : H a = some o) (h' : H b = some u) (d : o ≠ u) : a ≠ b := by
  intro e; subst e; rw [h] at h'; exact d (Option.some.inj h')
theorem ne_of_none {H : Hp} {a b : Addr} {o : HO} (h : H a = some o) (h' : H b = none) : a ≠ b := by
  intro e; subst e; rw [h] at h'; cases h'
section
variable (P : Program) (w : World)
def ObjOk (H : Hp) (h : Heap) (a : Addr) : HO → Prop
  | .lst xs => xs.length ≤ sizeLine ∧ ∃ (its : List Value) (n : Nat), Vals xs its ∧ h.get? a = some { cls := .type "list", data := .seq its.toArray n }
  | .tup xs => xs.length ≤ sizeLine ∧ ∃ its : List Value, Vals xs its ∧ IsTup h a its.toArray
  | .dK kvs => kvs.length ≤ sizeLine ∧ (a == sysModules) = false ∧ ∃ vs, KV kvs vs ∧ h.DictOf (mixKind P w) a vs
  | .dT kvs => kvs.length ≤ sizeLine ∧ (a == sysModules) = false ∧ ∃ xs : List (List Key × Addr × Value),
      Paired (fun (p : List Key × V) (q : List Key × Addr × Value) => p.1 = q.1 ∧ H q.2.1 = some (.tup (p.1.map kV)) ∧ RelV p.2 q.2.2) kvs xs ∧
      ∃ o es ep, h.get? a = some o ∧ o.ExactDict ∧ o.data = .dict es ep ∧ es.toList = xs.map (entryOfKey (tupleKind (mixKind P w))) ∧ (xs.map (·.1)).Nodup
  | .set S n => h.SetOf (intKind P w) a S n
  | .ins C dx fs => H dx = some (.own a) ∧ fs.length ≤ 1000 ∧ dx ≠ a ∧ h.get? a = some (PySem.W.instObj C dx) ∧
      ∃ mA, h.Ns1 dx mA ∧ (∀ f, RelO (fs.lookup f) (mA f)) ∧ PySem.Within mA (fs.map (·.1))
  | .own _ => ∃ o, h.get? a = some o
  | .xd fs => ∃ mA, h.Ns1 a mA ∧ ∀ f, RelO (fs.lookup f) (mA f)
  | .rng lo hi => ∃ t u v, h.get? a = some { cls := .type "range", data := .fields #[.int lo t, .int hi u, .int 1 v] }
  | .frz o u => h.get? a = some o ∧ ObjOk H h a u
  | .tbl ps => h.get? a = some { cls := .none, data := .fields ps }
  | .met f x => h.get? a = some (PySem.W.methodObj (.ref f) (.ref x))
  | .ext φ => φ h ∧ (∃ o, h.get? a = some o) ∧ ∀ h1 h2 : Heap, φ h1 → (∀ o, h1.get? a = some o → h2.get? a = some o) → φ h2
def HOk (H : Hp) (h : Heap) : Prop := ∀ a o, H a = some o → ObjOk P w H h a o
end
section
variable {P : Program} {w : World} {H H' : Hp} {h h' : Heap} {a : Addr} {o : HO}
theorem ObjOk.lt (x : ObjOk P w H h a o) : a < h.objs.size := by
  cases o with
  | lst xs => obtain ⟨_, _, _, _, e⟩ := x; exact Heap.lt_size e
  | tup xs => obtain ⟨_, _, _, p⟩ := x; exact p.lt
  | dK kvs => obtain ⟨_, _, _, _, o, _, _, e, _⟩ := x; exact Heap.lt_size e
  | dT kvs => obtain ⟨_, _, _, _, o, _, _, e, _⟩ := x; exact Heap.lt_size e
  | set S n => obtain ⟨o, _, _, _, e, _⟩ := x; exact Heap.lt_size e
  | ins C dx fs => obtain ⟨_, _, _, e, _⟩ := x; exact Heap.lt_size e
  | own y => obtain ⟨_, e⟩ := x; exact Heap.lt_size e
  | xd fs => obtain ⟨_, ⟨_, _, _, e, _⟩, _⟩ := x; exact Heap.lt_size e
  | rng lo hi => obtain ⟨_, _, _, e⟩ := x; exact Heap.lt_size e
  | frz ob u => obtain ⟨e, _⟩ := x; exact Heap.lt_size e
  | tbl ps => exact Heap.lt_size (show h.get? a = some _ from x)
  | met f y => exact Heap.lt_size (show h.get? a = some _ from x)
  | ext φ => obtain ⟨_, ⟨_, e⟩, _⟩ := x; exact Heap.lt_size e
theorem Paired.mapP {α β : Type} {F G : α → β → Prop} : ∀ {l₁ : List α} {l₂ : List β}, Paired F l₁ l₂ → (∀ a b, F a b → G a b) → Paired G l₁ l₂
  | _, _, .nil, _ => .nil
  | _, _, .cons r t, f => .cons (f _ _ r) (Paired.mapP t f)
theorem ObjOk.stay (x : ObjOk P w H h a o) (k : ∀ b u, (b = a ∨ H b = some (.own a)) → h.get? b = some u → h'.get? b = some u)
    (ho : ∀ b, H b = some (.own a) → H' b = some (.own a)) (ht : ∀ b xs, H b = some (.tup xs) → H' b = some (.tup xs)) : ObjOk P w H' h' a o := by
  induction o with
  | lst xs => obtain ⟨z, its, n, r, e⟩ := x; exact ⟨z, its, n, r, k _ _ (.inl rfl) e⟩
  | tup xs => obtain ⟨z, its, r, ob, e, c⟩ := x; exact ⟨z, its, r, ob, k _ _ (.inl rfl) e, c⟩
  | dK kvs => obtain ⟨z, y, vs, r, ob, es, ep, e, c⟩ := x; exact ⟨z, y, vs, r, ob, es, ep, k _ _ (.inl rfl) e, c⟩
  | dT kvs =>
    obtain ⟨z, y, xs, r, ob, es, ep, e, c⟩ := x
    exact ⟨z, y, xs, Paired.mapP r fun p q z => ⟨z.1, ht _ _ z.2.1, z.2.2⟩, ob, es, ep, k _ _ (.inl rfl) e, c⟩
  | set S n => obtain ⟨ob, es, ep, t, e, c⟩ := x; exact ⟨ob, es, ep, t, k _ _ (.inl rfl) e, c⟩
  | ins C dx fs =>
    obtain ⟨d, z, ne, e, mA, ⟨od, es, ep, e2, c⟩, r⟩ := x
    exact ⟨ho _ d, z, ne, k _ _ (.inl rfl) e, mA, ⟨od, es, ep, k _ _ (.inr d) e2, c⟩, r⟩
  | own y => obtain ⟨ob, e⟩ := x; exact ⟨ob, k _ _ (.inl rfl) e⟩
  | xd fs => obtain ⟨mA, ⟨od, es, ep, e, c⟩, r⟩ := x; exact ⟨mA, ⟨od, es, ep, k _ _ (.inl rfl) e, c⟩, r⟩
  | rng lo hi => obtain ⟨t, u, v, e⟩ := x; exact ⟨t, u, v, k _ _ (.inl rfl) e⟩
  | frz ob u ih => obtain ⟨e, q⟩ := x; exact ⟨k _ _ (.inl rfl) e, ih q⟩
  | tbl ps =>
    have e : h.get? a = some { cls := .none, data := .fields ps } := x
    show h'.get? a = some { cls := .none, data := .fields ps }
    exact k a _ (.inl rfl) e
  | met f y =>
    have e : h.get? a = some (PySem.W.methodObj (.ref f) (.ref y)) := x
    show h'.get? a = some (PySem.W.methodObj (.ref f) (.ref y))
    exact k a _ (.inl rfl) e
  | ext φ => obtain ⟨p, ⟨o, e⟩, st⟩ := x; exact ⟨st _ _ p fun o q => k _ _ (.inl rfl) q, ⟨o, k _ _ (.inl rfl) e⟩, st⟩
theorem HOk.lt (x : HOk P w H h) (e : H a = some o) : a < h.objs.size := (x a o e).lt
theorem HOk.fresh (x : HOk P w H h) (e : h.objs.size ≤ a) : H a = none := by
  cases q : H a with
  | none => rfl
  | some u => exact absurd (Nat.lt_of_lt_of_le (x.lt q) e) (Nat.lt_irrefl _)
theorem HOk.kept (x : HOk P w H h) (k : ∀ b u, h.get? b = some u → h'.get? b = some u) : HOk P w H h' := fun a o e =>
  (x a o e).stay (fun b u _ q => k b u q) (fun _ q => q) fun _ _ q => q
theorem HOk.laid (x : HOk P w H h) (k : ∀ b u, h.get? b = some u → h'.get? b = some u) (hp : h.objs.size ≤ a) (new : ObjOk P w (upd H a o) h' a o) : HOk P w (upd H a o) h' := fun b u e => by
  have hn := x.fresh hp
  by_cases hb : b = a
  · subst hb; rw [upd_same] at e; cases e; exact new
  · rw [upd_ne hb] at e
    exact (x b u e).stay (fun c v _ q => k c v q) (fun c q => by rw [upd_ne (ne_of_none q hn)]; exact q) fun c xs q => by rw [upd_ne (ne_of_none q hn)]; exact q
end
def Rd (H : Hp) (a : Addr) (u : HO) : Prop := H a = some u ∨ ∃ o, H a = some (.frz o u)
theorem Rd.ok {P : Program} {w : World} {H : Hp} {h : Heap} {a : Addr} {u : HO} (r : Rd H a u) (x : HOk P w H h) : ObjOk P w H h a u := by
  rcases r with r | ⟨o, r⟩
  · exact x a u r
  · obtain ⟨_, q⟩ := x a _ r
    exact q
def Mut : Option HO → Prop
  | some (.lst _) => True
  | some (.dK _) => True
  | some (.dT _) => True
  | some (.set _ _) => True
  | some (.ins _ _ _) => True
  | some (.ext _) => True
  | _ => False
section
variable {P : Program} {w : World} {H : Hp} {h h' : Heap} {x e : Addr} {o' : HO}
theorem HOk.write (ok : HOk P w H h) (mu : Mut (H x)) (he : e = x ∨ H e = some (.own x)) (k : ∀ b u, b ≠ e → h.get? b = some u → h'.get? b = some u) (heo : ∃ u, h'.get? e = some u)
    (new : ObjOk P w (upd H x o') h' x o') : HOk P w (upd H x o') h' := fun b u q => by
  have nown : ∀ c y, H c = some (.own y) → c ≠ x := fun c y r z => by subst z; rw [r] at mu; exact mu
  have ntup : ∀ c xs, H c = some (.tup xs) → c ≠ x := fun c xs r z => by subst z; rw [r] at mu; exact mu
  by_cases hb : b = x
  · subst hb; rw [upd_same] at q; cases q; exact new
  · rw [upd_ne hb] at q
    by_cases hbe : b = e
    · have q' : H b = some (.own x) := by
        rcases he with z | z
        · exact absurd (hbe.trans z) hb
        · rw [hbe]; exact z
      rw [q] at q'; cases q'
      obtain ⟨v, hv⟩ := heo
      exact ⟨v, by rw [hbe]; exact hv⟩
    · refine (ok b u q).stay (fun c v hc r => k c v ?_ r) (fun c r => by rw [upd_ne (nown c b r)]; exact r) fun c xs r => by rw [upd_ne (ntup c xs r)]; exact r
      rcases hc with rfl | hc
      · exact hbe
      · rintro rfl
        rcases he with z | z
        · exact nown c b hc z
        · rw [hc] at z; cases z; exact hb rfl
end
structure Un (fs ex : List Addr) (H H' : Hp) (h h' : Heap) : Prop where
  keep : ∀ b o, h.get? b = some o → H b = none → b ∉ fs → b ∉ ex → h'.get? b = some o
  slot : ∀ b o, h.get? b = some o → H b = none → b ∈ fs → b ∉ ex → ∃ sl, h'.get? b = some { o with slots := sl }
  free : ∀ b o, h.get? b = some o → H b = none → b ∉ ex → H' b = none
  there : ∀ b o, h.get? b = some o → b ∉ ex → ∃ o', h'.get? b = some o'
  tups : ∀ b xs, H b = some (.tup xs) → H' b = some (.tup xs)
  frzs : ∀ b o u, H b = some (.frz o u) → H' b = some (.frz o u)
  tbls : ∀ b ps, H b = some (.tbl ps) → ∃ more, H' b = some (.tbl (ps ++ more))
section
variable {fs fs' ex ex' : List Addr} {H H1 H2 : Hp} {h h1 h2 h' : Heap} {a x e : Addr} {o : HO}
theorem Un.any (u : Un fs ex H H1 h h1) {b : Addr} {ob : Obj} (q : h.get? b = some ob) (n : H b = none) (hx : b ∉ ex) : ∃ sl, h1.get? b = some { ob with slots := sl } := by
  by_cases hb : b ∈ fs
  · exact u.slot b ob q n hb hx
  · exact ⟨ob.slots, u.keep b ob q n hb hx⟩
theorem Un.kept (k : ∀ b u, h.get? b = some u → h'.get? b = some u) : Un fs ex H H h h' :=
  ⟨fun b ob q _ _ _ => k b ob q, fun b ob q _ _ _ => ⟨ob.slots, k b ob q⟩, fun _ _ _ n _ => n, fun b ob q _ => ⟨ob, k b ob q⟩, fun _ _ q => q, fun _ _ _ q => q, fun _ ps q => ⟨#[], by rw [q]; simp⟩⟩
theorem Un.refl : Un fs ex H H h h := Un.kept fun _ _ q => q
theorem Un.laid (k : ∀ b u, h.get? b = some u → h'.get? b = some u) (hp : h.objs.size ≤ a) (hn : H a = none) : Un fs ex H (upd H a o) h h' where
  keep := fun b u q _ _ _ => k b u q
  slot := fun b u q _ _ _ => ⟨u.slots, k b u q⟩
  free := fun b u q n _ => by rw [upd_ne (Nat.ne_of_lt (Nat.lt_of_lt_of_le (Heap.lt_size q) hp))]; exact n
  there := fun b u q _ => ⟨u, k b u q⟩
  tups := fun b xs q => by rw [upd_ne (ne_of_none q hn)]; exact q
  frzs := fun b u xs q => by rw [upd_ne (ne_of_none q hn)]; exact q
  tbls := fun b ps q => ⟨#[], by rw [upd_ne (ne_of_none q hn), q]; simp⟩
theorem Un.write (mu : Mut (H x)) (he : e = x ∨ H e = some (.own x)) (k : ∀ b u, b ≠ e → h.get? b = some u → h'.get? b = some u) (heo : ∃ u, h'.get? e = some u) : Un fs ex H (upd H x o) h h' := by
  have hx : ∀ b, H b = none → b ≠ x := fun b n z => by subst z; rw [n] at mu; exact mu
  have hb : ∀ b, H b = none → b ≠ e := fun b n z => by
    subst z
    rcases he with r | r
    · exact hx b n r
    · rw [n] at r; cases r
  have hm : ∀ b u, H b = some u → ¬ Mut (some u) → b ≠ x := fun b u q nm z => by subst z; rw [q] at mu; exact nm mu
  refine ⟨fun b u q n _ _ => k b u (hb b n) q, fun b u q n _ _ => ⟨u.slots, k b u (hb b n) q⟩, fun b u q n _ => by rw [upd_ne (hx b n)]; exact n, fun b u q _ => ?_,
    fun b xs q => by rw [upd_ne (hm b _ q fun z => z)]; exact q, fun b u xs q => by rw [upd_ne (hm b _ q fun z => z)]; exact q, fun b ps q => ⟨#[], by rw [upd_ne (hm b _ q fun z => z), q]; simp⟩⟩
  by_cases hbe : b = e
  · subst hbe; exact heo
  · exact ⟨u, k b u hbe q⟩
end
def trk (h : Heap) (H : Hp) : List Addr := (List.range h.objs.size).filter fun a => (H a).isSome
def hidT (h : Heap) (H : Hp) : Heap := PySem.W.hideAll h (trk h H)
theorem hidT_size (h : Heap) (H : Hp) : (hidT h H).objs.size = h.objs.size := PySem.W.hideAll_size _ _
theorem hidT_get {h : Heap} {H : Hp} {b : Addr} {o : Obj} (e : h.get? b = some o) (n : H b = none) : (hidT h H).get? b = some o :=
  PySem.W.hideAll_get _ e fun hm => by
    have q : (H b).isSome = true := (List.mem_filter.mp hm).2
    rw [n] at q; simp at q
theorem of_hidT {h : Heap} {H : Hp} {b : Addr} {o : Obj} (e : (hidT h H).get? b = some o) : h.get? b = some o ∧ H b = none := by
  have e' : h.get? b = some o := PySem.W.of_hideAll (trk h H) e
  refine ⟨e', ?_⟩
  cases q : H b with
  | none => rfl
  | some x =>
    have hm : b ∈ trk h H := List.mem_filter.mpr ⟨List.mem_range.mpr (Heap.lt_size e'), by simp [q]⟩
    have z : (hidT h H).get? b = none := PySem.W.hideAll_none (trk h H) hm
    rw [z] at e; cases e
end L2
namespace L2
open PySem PySem.Spec PyProof.Rows
structure Mod (K : PySem.W.Frag) (mg : Str → Option Value) (base : Heap) : Prop where
  kin : K.In base
  glob : base.Ns mainGlobals mg
  blt : ∃ mb, base.Ns builtinsNs mb ∧ ∀ x : Str, x ≠ "__name__" → mb x = bootBuiltins x
  nolimit : base.NoLimit
structure Cx where
  prog : Program
  w : World
  K : PySem.W.Frag
  mg : Str → Option Value
  base : Heap
  A : Around
  N : List Str
  s_0 : Shared
  H_0 : Hp
  env : Env
  outer : List Env
  stack : List Env
  ex : List Addr
  fn : Str → Bool
  calm : Bool
  pn : List (Addr × Obj)
  xe : Value → Shared → Prop
def frs (l : List Env) : List Addr := l.filterMap (·.frame)
abbrev Cx.fs (X : Cx) : List Addr := frs X.outer
def Vis (sc : Scope) (x : Str) : Prop := sc.names.lookup x = some .local ∨ sc.names.lookup x = some .cell ∨ sc.names.lookup x = some .free
def Loc (sc : Scope) (x : Str) : Prop := sc.names.lookup x = some .local ∨ sc.names.lookup x = some .cell
def Look (env : Env) (h : Heap) (m : Str → Option Value) (x : Str) (u : Value) : Prop :=
  (env.kindOf x = some .local ∧ m x = some u) ∨ ((env.kindOf x = some .cell ∨ env.kindOf x = some .free) ∧ ∃ c, env.cells.lookup x = some c ∧ h.IsCell c (some u))
structure Cx.Ok (X : Cx) : Prop where
  mod : Mod X.K X.mg X.base
  kind : X.env.scope.kind = .function
  glob : X.env.globals = mainGlobals
  blt : X.env.builtins = builtinsNs
  above : X.s_0.heap.objs.size ≤ X.env.locals
  inj : ∀ x y c, X.env.cells.lookup x = some c → X.env.cells.lookup y = some c → x = y
  has : ∀ x, (X.env.kindOf x = some .cell ∨ X.env.kindOf x = some .free) → ∃ c, X.env.cells.lookup x = some c
  cab : ∀ x c, X.fn x = true → X.env.cells.lookup x = some c → X.s_0.heap.objs.size ≤ c
  hd : X.calm = true → X.A.handled = none
  frames : X.A.frames = some X.stack
  stk : X.stack = X.outer ∨ (X.stack = X.env :: X.outer ∧ X.env.frame = some X.env.locals)
  exf : ∀ b ∈ X.ex, b ≠ X.env.locals ∧ ∀ x c, X.env.cells.lookup x = some c → c ≠ b
  bs : ∀ b o, X.base.get? b = some o → X.s_0.heap.get? b = some o ∧ X.H_0 b = none
  bsz : X.base.objs.size ≤ X.s_0.heap.objs.size
  noex : ∀ b o, X.base.get? b = some o → b ∉ X.ex
  exfs : ∀ b ∈ X.ex, b ∉ X.fs
  funs : X.s_0.heap.FunFrames X.base X.outer
  frf : ∀ b ∈ X.fs, X.H_0 b = none
structure Inv (X : Cx) (pins : List (Addr × Obj)) (σ : List (Option V)) (H : Hp) (s : Shared) : Prop where
  ok : X.Ok
  os : s.os = X.s_0.os
  bare : AllBare s.gens
  base : Un X.fs X.ex X.H_0 H X.s_0.heap s.heap
  loc : ∃ m, s.heap.Ns X.env.locals m ∧ ∀ (i : Nat) (x : Str) (v : V), X.N[i]? = some x → σ[i]? = some (some v) → Vis X.env.scope x → ∃ u, RelV v u ∧ Look X.env s.heap m x u
  cell : ∀ x c, X.env.cells.lookup x = some c → ∃ v, s.heap.IsCell c v
  free : H X.env.locals = none
  freeC : ∀ x c, X.env.cells.lookup x = some c → H c = none
  pin : ∀ p ∈ X.pn ++ pins, s.heap.get? p.1 = some p.2 ∧ H p.1 = none ∧ p.1 ≠ X.env.locals ∧ p.1 ∉ X.fs ∧ ∀ v, p.2.data ≠ .cell v
  hok : HOk X.prog X.w H s.heap
  len : σ.length = X.N.length
section
variable {X : Cx} {pins : List (Addr × Obj)} {σ : List (Option V)} {H H' : Hp} {s : Shared} {h' : Heap}
theorem Cx.Ok.nofr (ok : X.Ok) {b : Addr} {o : Obj} (e : X.base.get? b = some o) : b ∉ X.fs := fun hb => by
  have := (ok.funs.mem hb).1
  rw [e] at this; cases this
theorem Inv.bs (I : Inv X pins σ H s) : ∀ b o, X.base.get? b = some o → s.heap.get? b = some o ∧ H b = none := fun b o e =>
  ⟨I.base.keep b o (I.ok.bs b o e).1 (I.ok.bs b o e).2 (I.ok.nofr e) (I.ok.noex b o e), I.base.free b o (I.ok.bs b o e).1 (I.ok.bs b o e).2 (I.ok.noex b o e)⟩
theorem Inv.bk (I : Inv X pins σ H s) : ∀ b o, X.base.get? b = some o → s.heap.get? b = some o := fun b o e => (I.bs b o e).1
theorem Inv.mod (I : Inv X pins σ H s) : Mod X.K X.mg X.base := I.ok.mod
theorem Inv.kIn (I : Inv X pins σ H s) : X.K.In s.heap := I.ok.mod.kin.keeps I.bk
theorem Inv.lt (I : Inv X pins σ H s) : X.env.locals < s.heap.objs.size := let ⟨_, hn, _⟩ := I.loc; hn.lt
theorem Inv.sz (I : Inv X pins σ H s) : X.s_0.heap.objs.size ≤ s.heap.objs.size := Nat.le_trans I.ok.above (Nat.le_of_lt I.lt)
theorem Inv.nofs (I : Inv X pins σ H s) {a : Addr} (h : s.heap.objs.size ≤ a) : a ∉ X.fs := fun hb => by
  obtain ⟨_, o, ho, _⟩ := I.ok.funs.mem hb
  exact absurd (Nat.lt_of_lt_of_le (Heap.lt_size ho) (Nat.le_trans I.sz h)) (Nat.lt_irrefl _)
theorem Inv.cne (I : Inv X pins σ H s) : ∀ x c, X.env.cells.lookup x = some c → c ≠ X.env.locals := fun x c e z => by
  obtain ⟨v, o, ho, hd⟩ := I.cell x c e
  obtain ⟨m, ⟨o', es, ep, ho', hd', _⟩, _⟩ := I.loc
  rw [z, ho'] at ho; cases ho; rw [hd'] at hd; cases hd
theorem Inv.funs (I : Inv X pins σ H s) : s.heap.FunFrames X.base X.outer := by
  have all : ∀ (l : List Env), (∀ b ∈ frs l, b ∈ X.fs) → X.s_0.heap.FunFrames X.base l → s.heap.FunFrames X.base l := by
    intro l
    induction l with
    | nil => intro _ _; trivial
    | cons env r ih =>
      intro hs hl
      obtain ⟨hk, ⟨L, o, hf, hn, ho, hd⟩, hr⟩ := hl
      have hL : L ∈ X.fs := hs L (by unfold frs; rw [List.filterMap_cons, hf]; exact List.mem_cons_self)
      obtain ⟨sl, e⟩ := I.base.slot L o ho (I.ok.frf L hL) hL fun z => I.ok.exfs L z hL
      exact ⟨hk, ⟨L, _, hf, hn, e, hd⟩, ih (fun b hb => hs b (by unfold frs; rw [List.filterMap_cons, hf]; exact List.mem_cons_of_mem _ hb)) hr⟩
  exact all X.outer (fun _ hb => hb) I.ok.funs
theorem Inv.stack (I : Inv X pins σ H s) : s.heap.FunFrames X.base X.stack := by
  rcases I.ok.stk with e | ⟨e, hf⟩
  · rw [e]; exact I.funs
  · rw [e]
    obtain ⟨m, hn, _⟩ := I.loc
    refine .cons (by rw [I.ok.kind]; decide) hf hn ?_ I.funs
    exact Heap.get?_none_of_le (Nat.le_trans I.ok.bsz I.ok.above)
theorem Inv.stkSub (I : Inv X pins σ H s) : ∀ b ∈ frs X.stack, b ∈ X.env.locals :: X.fs := fun b hb => by
  rcases I.ok.stk with e | ⟨e, hf⟩
  · rw [e] at hb; exact List.mem_cons_of_mem _ hb
  · rw [e] at hb
    unfold frs at hb
    rw [List.filterMap_cons, hf] at hb
    exact hb
theorem Inv.stkFree (I : Inv X pins σ H s) : ∀ b ∈ frs X.stack, H b = none := fun b hb => by
  rcases List.mem_cons.mp (I.stkSub b hb) with e | hb
  · rw [e]; exact I.free
  · obtain ⟨_, o, ho, _⟩ := I.ok.funs.mem hb
    exact I.base.free b o ho (I.ok.frf b hb) fun z => I.ok.exfs b z hb
theorem Inv.step {g' : Array GenState} {t' : Nat} {d' : Drawn} {ch : List Addr} (I : Inv X pins σ H s)
    (hch : ∀ b ∈ ch, (b ∈ X.ex ∨ X.s_0.heap.objs.size ≤ b) ∧ b ≠ X.env.locals ∧ (∀ x c, X.env.cells.lookup x = some c → c ≠ b) ∧ ∀ p ∈ X.pn ++ pins, p.1 ≠ b)
    (keep : ∀ b o, b ≠ X.env.locals → b ∉ X.fs → b ∉ ch → s.heap.get? b = some o → H b = none → h'.get? b = some o)
    (slot : ∀ b o, b ≠ X.env.locals → b ∈ X.fs → b ∉ ch → s.heap.get? b = some o → H b = none → ∃ sl, h'.get? b = some { o with slots := sl }) (free : ∀ b o, b ∉ ch → s.heap.get? b = some o → H b = none → H' b = none)
    (there : ∀ b o, b ∉ ch → s.heap.get? b = some o → ∃ o', h'.get? b = some o')
    (tups : ∀ b xs, H b = some (.tup xs) → H' b = some (.tup xs)) (frzs : ∀ b o u, H b = some (.frz o u) → H' b = some (.frz o u)) (tbls : ∀ b ps, H b = some (.tbl ps) → ∃ more, H' b = some (.tbl (ps ++ more)))
    (ns : ∀ m, s.heap.Ns X.env.locals m → h'.Ns X.env.locals m) (hok : HOk X.prog X.w H' h') (hg : AllBare g') :
    Inv X pins σ H' { s with heap := h', gens := g', drawn := d', toks := t' } := by
  have neL : ∀ b o, X.s_0.heap.get? b = some o → b ≠ X.env.locals := fun b o e => Nat.ne_of_lt (Nat.lt_of_lt_of_le (Heap.lt_size e) I.ok.above)
  have neC : ∀ b o, X.s_0.heap.get? b = some o → b ∉ X.ex → b ∉ ch := fun b o e hx hb => by
    rcases (hch b hb).1 with z | z
    · exact hx z
    · exact absurd (Nat.lt_of_lt_of_le (Heap.lt_size e) z) (Nat.lt_irrefl _)
  have cellK : ∀ x c, X.env.cells.lookup x = some c → ∀ v, s.heap.IsCell c v → h'.IsCell c v := fun x c e v ⟨o, ho, hd⟩ => by
    have nch : c ∉ ch := fun z => (hch c z).2.2.1 x c e rfl
    by_cases hc : c ∈ X.fs
    · obtain ⟨sl, q⟩ := slot c o (I.cne x c e) hc nch ho (I.freeC x c e)
      exact ⟨_, q, hd⟩
    · exact ⟨o, keep c o (I.cne x c e) hc nch ho (I.freeC x c e), hd⟩
  refine ⟨I.ok, I.os, hg, ⟨fun b o e n hb hx => ?_, fun b o e n hb hx => ?_, fun b o e n hx => ?_, fun b o e hx => ?_, fun b xs e => tups b xs (I.base.tups b xs e), fun b o xs e => frzs b o xs (I.base.frzs b o xs e), fun b ps e => ?_⟩, ?_, fun x c e => ?_, ?_, fun x c e => ?_, fun p hp => ?_, hok, I.len⟩
  · exact keep b o (neL b o e) hb (neC b o e hx) (I.base.keep b o e n hb hx) (I.base.free b o e n hx)
  · obtain ⟨sl, e1⟩ := I.base.slot b o e n hb hx
    obtain ⟨sl', e2⟩ := slot b _ (neL b o e) hb (neC b o e hx) e1 (I.base.free b o e n hx)
    exact ⟨sl', e2⟩
  · obtain ⟨o', e1⟩ := I.base.there b o e hx
    exact free b o' (neC b o e hx) e1 (I.base.free b o e n hx)
  · obtain ⟨o', e1⟩ := I.base.there b o e hx
    exact there b o' (neC b o e hx) e1
  · obtain ⟨m1, e1⟩ := I.base.tbls b ps e
    obtain ⟨m2, e2⟩ := tbls b _ e1
    exact ⟨m1 ++ m2, by rw [e2, Array.append_assoc]⟩
  · obtain ⟨m, hn, hl⟩ := I.loc
    refine ⟨m, ns m hn, fun i x v e1 e2 e3 => ?_⟩
    obtain ⟨u, r, l⟩ := hl i x v e1 e2 e3
    refine ⟨u, r, ?_⟩
    rcases l with l | ⟨k, c, e, z⟩
    · exact .inl l
    · exact .inr ⟨k, c, e, cellK x c e _ z⟩
  · obtain ⟨v, z⟩ := I.cell x c e
    exact ⟨v, cellK x c e v z⟩
  · obtain ⟨m, ⟨o, _, _, ho, _⟩, _⟩ := I.loc
    exact free _ o (fun z => (hch _ z).2.1 rfl) ho I.free
  · obtain ⟨v, o, ho, hd⟩ := I.cell x c e
    exact free c o (fun z => (hch c z).2.2.1 x c e rfl) ho (I.freeC x c e)
  · obtain ⟨e, n, ne, nf, d⟩ := I.pin p hp
    have nch : p.1 ∉ ch := fun z => (hch p.1 z).2.2.2 p hp rfl
    exact ⟨keep p.1 p.2 ne nf nch e n, free p.1 p.2 nch e n, ne, nf, d⟩
theorem Inv.un {t' : Nat} (I : Inv X pins σ H s) (u : Un X.fs [] H H' s.heap h') (hok : HOk X.prog X.w H' h') : Inv X pins σ H' { s with heap := h', toks := t' } := by
  obtain ⟨m, ⟨o, es, ep, ho, r⟩, _⟩ := id I.loc
  obtain ⟨sl, hL⟩ := u.any ho I.free (by simp)
  exact I.step (g' := s.gens) (d' := s.drawn) (ch := []) (fun _ z => nomatch z) (fun b o _ hb _ e n => u.keep b o e n hb (by simp)) (fun b o _ hb _ e n => u.slot b o e n hb (by simp)) (fun b o _ e n => u.free b o e n (by simp)) (fun b o _ e => u.there b o e (by simp)) u.tups u.frzs u.tbls (fun m' hm => by
    obtain ⟨o', es', ep', ho', r'⟩ := hm
    rw [ho] at ho'; cases ho'
    exact ⟨_, es', ep', hL, r'⟩) hok I.bare
theorem Inv.call {g' : Array GenState} {t' : Nat} {d' : Drawn} {ch : List Addr} (I : Inv X pins σ H s) (u : Un (frs X.stack) ch H H' s.heap h') (hok : HOk X.prog X.w H' h') (hg : AllBare g')
    (hch : ∀ b ∈ ch, (b ∈ X.ex ∨ X.s_0.heap.objs.size ≤ b) ∧ b ≠ X.env.locals ∧ (∀ x c, X.env.cells.lookup x = some c → c ≠ b) ∧ ∀ p ∈ X.pn ++ pins, p.1 ≠ b) :
    Inv X pins σ H' { s with heap := h', gens := g', drawn := d', toks := t' } := by
  obtain ⟨m, ⟨o, es, ep, ho, r⟩, _⟩ := id I.loc
  obtain ⟨sl, hL⟩ := u.any ho I.free fun z => (hch _ z).2.1 rfl
  exact I.step (ch := ch) hch (fun b o hL hb hc e n => u.keep b o e n (fun z => (List.mem_cons.mp (I.stkSub b z)).elim hL hb) hc) (fun b o _ _ hc e n => u.any e n hc) (fun b o hc e n => u.free b o e n hc) (fun b o hc e => u.there b o e hc) u.tups u.frzs u.tbls (fun m' hm => by
    obtain ⟨o', es', ep', ho', r'⟩ := hm
    rw [ho] at ho'; cases ho'
    exact ⟨_, es', ep', hL, r'⟩) hok hg
theorem Inv.turned {t' : Nat} {it : Addr} (I : Inv X pins σ H s) (k : ∀ b o, b ≠ it → s.heap.get? b = some o → h'.get? b = some o) (hn : H it = none) (hL : it ≠ X.env.locals)
    (h1 : it ∈ X.ex ∨ X.s_0.heap.objs.size ≤ it) (h2 : ∀ x c, X.env.cells.lookup x = some c → c ≠ it) (h3 : ∀ p ∈ X.pn ++ pins, p.1 ≠ it) : Inv X pins σ H { s with heap := h', toks := t' } := by
  have nit : ∀ b u, H b = some u → b ≠ it := fun b u e z => by rw [z, hn] at e; cases e
  refine I.step (g' := s.gens) (d' := s.drawn) (ch := [it]) (fun b hb => ?_) (fun b o _ _ hc e _ => k b o (fun z => hc (by simp [z])) e) (fun b o _ _ hc e _ => ⟨o.slots, k b o (fun z => hc (by simp [z])) e⟩) (fun _ _ _ _ n => n)
    (fun b o hc e => ⟨o, k b o (fun z => hc (by simp [z])) e⟩) (fun _ _ e => e) (fun _ _ _ e => e) (fun b ps e => ⟨#[], by rw [e]; simp⟩) (fun m hm => ?_) (fun b u e => ?_) I.bare
  · have e : b = it := by simpa using hb
    subst e
    exact ⟨h1, hL, h2, h3⟩
  · obtain ⟨o, es, ep, ho, r⟩ := hm
    exact ⟨o, es, ep, k _ o (Ne.symm hL) ho, r⟩
  · refine (I.hok b u e).stay (fun c v hc q => k c v ?_ q) (fun _ q => q) fun _ _ q => q
    rcases hc with z | z
    · rw [z]; exact nit b u e
    · exact nit c _ z
theorem Inv.tok (I : Inv X pins σ H s) (t : Nat) : Inv X pins σ H { s with toks := t } := I.un (h' := s.heap) (t' := t) Un.refl I.hok
theorem Inv.kept {t' : Nat} (I : Inv X pins σ H s) (k : ∀ b u, s.heap.get? b = some u → h'.get? b = some u) : Inv X pins σ H { s with heap := h', toks := t' } := I.un (Un.kept k) (I.hok.kept k)
theorem Inv.laid {a : Addr} {o : HO} {t' : Nat} (I : Inv X pins σ H s) (k : ∀ b u, s.heap.get? b = some u → h'.get? b = some u) (hp : s.heap.objs.size ≤ a) (new : ObjOk X.prog X.w (upd H a o) h' a o) :
    Inv X pins σ (upd H a o) { s with heap := h', toks := t' } := I.un (Un.laid k hp (I.hok.fresh hp)) (I.hok.laid k hp new)
theorem Inv.write {x e : Addr} {o : HO} {t' : Nat} (I : Inv X pins σ H s) (mu : Mut (H x)) (he : e = x ∨ H e = some (.own x)) (k : ∀ b u, b ≠ e → s.heap.get? b = some u → h'.get? b = some u) (heo : ∃ u, h'.get? e = some u)
    (new : ObjOk X.prog X.w (upd H x o) h' x o) : Inv X pins σ (upd H x o) { s with heap := h', toks := t' } := I.un (Un.write mu he k heo) (I.hok.write mu he k heo new)
theorem Inv.weak {σ' : List (Option V)} (I : Inv X pins σ H s) (hl : σ'.length = σ.length) (w : ∀ (i : Nat) v, σ'[i]? = some (some v) → σ[i]? = some (some v)) : Inv X pins σ' H s :=
  ⟨I.ok, I.os, I.bare, I.base, let ⟨m, hn, hl'⟩ := I.loc; ⟨m, hn, fun i x v e1 e2 e3 => hl' i x v e1 (w i v e2) e3⟩, I.cell, I.free, I.freeC, I.pin, I.hok, hl.trans I.len⟩
theorem Inv.pins_of {pins' : List (Addr × Obj)} (I : Inv X pins σ H s) (h : ∀ p ∈ pins', s.heap.get? p.1 = some p.2 ∧ H p.1 = none ∧ p.1 ≠ X.env.locals ∧ p.1 ∉ X.fs ∧ ∀ v, p.2.data ≠ .cell v) : Inv X pins' σ H s :=
  ⟨I.ok, I.os, I.bare, I.base, I.loc, I.cell, I.free, I.freeC, fun p hp => (List.mem_append.mp hp).elim (fun z => I.pin p (List.mem_append_left _ z)) (h p), I.hok, I.len⟩
theorem nodup_ix {N : List Str} (hN : N.Nodup) {i j : Nat} {x : Str} (a : N[i]? = some x) (b : N[j]? = some x) : i = j := by
  obtain ⟨h1, e1⟩ := List.getElem?_eq_some_iff.mp a
  obtain ⟨h2, e2⟩ := List.getElem?_eq_some_iff.mp b
  exact (List.getElem_inj hN).mp (e1.trans e2.symm)
theorem store_ok2 {M : Model} {A : Around} {E : Value → Shared → Prop} {i : Nat} {x : Str} {v : V} {u : Value} {Q : Unit → Shared → Prop} (I : Inv X pins σ H s) (hN : X.N.Nodup) (hi : X.N[i]? = some x) (hx : Loc X.env.scope x) (r : RelV v u)
    (h : ∀ s', Inv X pins (σ.set i (some v)) H s' → (∃ a, Heap.SameBut a s.heap s'.heap ∧ (a = X.env.locals ∨ X.env.cells.lookup x = some a)) → Q () s') (hf : X.fn x = true ∨ X.env.scope.names.lookup x = some .local := by first | exact .inl rfl | exact .inr rfl | assumption) : wpAny M A (storeName X.env x u) Q E s := by
  obtain ⟨m, hn, hl⟩ := id I.loc
  have hcls : (X.env.scope.kind == .class || (X.env.scope.kind == .module && X.env.locals != X.env.globals)) = false := by rw [I.ok.kind]; rfl
  have hiσ : i < σ.length := by rw [I.len]; exact (List.getElem?_eq_some_iff.mp hi).1
  have cne := I.cne
  have tracked : ∀ {a : Addr} {h' : Heap}, (∃ o, s.heap.get? a = some o ∧ H a = none) → Heap.SameBut a s.heap h' → HOk X.prog X.w H h' := fun {a h'} ha hs b ob e => by
    obtain ⟨_, _, hfree⟩ := ha
    refine (I.hok b ob e).stay (fun c w' hc q => (hs.2 c ?_).trans q) (fun _ q => q) fun _ _ q => q
    rintro rfl
    rcases hc with rfl | hc
    · rw [hfree] at e; cases e
    · rw [hfree] at hc; cases hc
  rcases hx with hk | hk
  · refine wpAny_storeName_local hk hn (fun h' hn' hs => ?_) hcls
    obtain ⟨oL, _, _, hoL, _⟩ := id hn
    refine h _ ⟨I.ok, I.os, I.bare, ⟨fun b o e n hb hx => ?_, fun b o e n hb hx => ?_, I.base.free, fun b o e hx => ?_, I.base.tups, I.base.frzs, I.base.tbls⟩, ⟨_, hn', fun j y v' e1 e2 e3 => ?_⟩, fun y c e => ?_, I.free, I.freeC, fun p hp => ?_, tracked ⟨oL, hoL, I.free⟩ hs, by simpa using I.len⟩ ⟨_, hs, .inl rfl⟩
    · exact (hs.2 b (Nat.ne_of_lt (Nat.lt_of_lt_of_le (Heap.lt_size e) I.ok.above))).trans (I.base.keep b o e n hb hx)
    · obtain ⟨sl, e1⟩ := I.base.slot b o e n hb hx
      exact ⟨sl, (hs.2 b (Nat.ne_of_lt (Nat.lt_of_lt_of_le (Heap.lt_size e) I.ok.above))).trans e1⟩
    · obtain ⟨o', e1⟩ := I.base.there b o e hx
      exact ⟨o', (hs.2 b (Nat.ne_of_lt (Nat.lt_of_lt_of_le (Heap.lt_size e) I.ok.above))).trans e1⟩
    · by_cases hj : j = i
      · subst hj
        rw [hi] at e1; cases e1
        rw [List.getElem?_set_self hiσ] at e2
        cases e2
        exact ⟨u, r, .inl ⟨hk, by simp⟩⟩
      · rw [List.getElem?_set_ne (Ne.symm hj)] at e2
        obtain ⟨u', r', q⟩ := hl j y v' e1 e2 e3
        refine ⟨u', r', ?_⟩
        rcases q with ⟨k, e⟩ | ⟨k, c, e, z⟩
        · refine .inl ⟨k, ?_⟩
          have : y ≠ x := fun e => hj (nodup_ix hN e1 (e ▸ hi))
          simp [this, e]
        · exact .inr ⟨k, c, e, z.sameBut hs (cne y c e)⟩
    · obtain ⟨w', z⟩ := I.cell y c e
      exact ⟨w', z.sameBut hs (cne y c e)⟩
    · obtain ⟨e, n, ne, nf, d⟩ := I.pin p hp
      exact ⟨(hs.2 p.1 ne).trans e, n, ne, nf, d⟩
  · have hfn : X.fn x = true := by
      rcases hf with z | z
      · exact z
      · rw [z] at hk; cases hk
    obtain ⟨c, hc⟩ := I.ok.has x (.inl hk)
    obtain ⟨w', z⟩ := I.cell x c hc
    refine wpAny_storeName_cell I.ok.kind hk hc z (fun h' hc' hs => ?_)
    obtain ⟨oc, hoc, hocd⟩ := id z
    refine h { s with heap := h' } ⟨I.ok, I.os, I.bare, ⟨fun b o e n hb hx => ?_, fun b o e n hb hx => ?_, I.base.free, fun b o e hx => ?_, I.base.tups, I.base.frzs, I.base.tbls⟩, ⟨m, hn.sameBut hs (Ne.symm (cne x c hc)), fun j y v' e1 e2 e3 => ?_⟩, fun y c' e => ?_, I.free, I.freeC, fun p hp => ?_, tracked ⟨oc, hoc, I.freeC x c hc⟩ hs, by simpa using I.len⟩ ⟨c, hs, .inr hc⟩
    · exact (hs.2 b (Nat.ne_of_lt (Nat.lt_of_lt_of_le (Heap.lt_size e) (I.ok.cab x c hfn hc)))).trans (I.base.keep b o e n hb hx)
    · obtain ⟨sl, e1⟩ := I.base.slot b o e n hb hx
      exact ⟨sl, (hs.2 b (Nat.ne_of_lt (Nat.lt_of_lt_of_le (Heap.lt_size e) (I.ok.cab x c hfn hc)))).trans e1⟩
    · obtain ⟨o', e1⟩ := I.base.there b o e hx
      exact ⟨o', (hs.2 b (Nat.ne_of_lt (Nat.lt_of_lt_of_le (Heap.lt_size e) (I.ok.cab x c hfn hc)))).trans e1⟩
    · by_cases hj : j = i
      · subst hj
        rw [hi] at e1; cases e1
        rw [List.getElem?_set_self hiσ] at e2
        cases e2
        exact ⟨u, r, .inr ⟨.inl hk, c, hc, hc'⟩⟩
      · rw [List.getElem?_set_ne (Ne.symm hj)] at e2
        obtain ⟨u', r', q⟩ := hl j y v' e1 e2 e3
        refine ⟨u', r', ?_⟩
        rcases q with q | ⟨k, c', e, z'⟩
        · exact .inl q
        · refine .inr ⟨k, c', e, z'.sameBut hs ?_⟩
          rintro rfl
          exact hj (nodup_ix hN e1 (I.ok.inj _ _ _ e hc ▸ hi))
    · by_cases hcc : c' = c
      · subst hcc; exact ⟨_, hc'⟩
      · obtain ⟨w2, z2⟩ := I.cell y c' e
        exact ⟨w2, z2.sameBut hs hcc⟩
    · obtain ⟨e, n, ne, nf, d⟩ := I.pin p hp
      refine ⟨(hs.2 p.1 ?_).trans e, n, ne, nf, d⟩
      intro q
      rw [q, hoc] at e
      have q' : oc = p.2 := Option.some.inj e
      exact d w' (by rw [← q']; exact hocd)
theorem store_ok {M : Model} {A : Around} {E : Value → Shared → Prop} {i : Nat} {x : Str} {v : V} {u : Value} {Q : Unit → Shared → Prop} (I : Inv X pins σ H s) (hN : X.N.Nodup) (hi : X.N[i]? = some x) (hx : Loc X.env.scope x) (r : RelV v u)
    (h : ∀ s', Inv X pins (σ.set i (some v)) H s' → Q () s') (hf : X.fn x = true ∨ X.env.scope.names.lookup x = some .local := by first | exact .inl rfl | exact .inr rfl | assumption) : wpAny M A (storeName X.env x u) Q E s :=
  store_ok2 I hN hi hx r (fun s' I' _ => h s' I') hf
theorem Inv.call' {s' : Shared} {ch : List Addr} (I : Inv X pins σ H s) (ho : s'.os = s.os) (u : Un (frs X.stack) ch H H' s.heap s'.heap) (hok : HOk X.prog X.w H' s'.heap) (hg : AllBare s'.gens)
    (hch : ∀ b ∈ ch, (b ∈ X.ex ∨ X.s_0.heap.objs.size ≤ b) ∧ b ≠ X.env.locals ∧ (∀ x c, X.env.cells.lookup x = some c → c ≠ b) ∧ ∀ p ∈ X.pn ++ pins, p.1 ≠ b) : Inv X pins σ H' s' := by
  obtain ⟨h', g', d', t', o'⟩ := s'
  have e : o' = s.os := ho
  subst e
  exact I.call (g' := g') (t' := t') (d' := d') u hok hg hch
end
abbrev XK := Value → Option Addr → Hp → Prop
abbrev St := List (Option V)
abbrev VK := V → Hp → Prop
abbrev TE := St → Hp → VK → Prop
abbrev TT := St → Hp → (Bool → Hp → Prop) → Prop
abbrev TA := St → Hp → (List V → Hp → Prop) → Prop
structure Ends where
  nx : St → Hp → Prop
  rt : VK
  bk : St → Hp → Prop := fun _ _ => False
  ct : St → Hp → Prop := fun _ _ => False
abbrev TS := Ends → St → Hp → Prop
def EP (X : Cx) (pins : List (Addr × Obj)) (σ : St) (Q : VK) (u : Value) (s' : Shared) : Prop := ∃ v H', Inv X pins σ H' s' ∧ RelV v u ∧ Q v H'
def TP (X : Cx) (pins : List (Addr × Obj)) (σ : St) (Q : Bool → Hp → Prop) (b : Bool) (s' : Shared) : Prop := ∃ H', Inv X pins σ H' s' ∧ Q b H'
def AP (X : Cx) (pins : List (Addr × Obj)) (σ : St) (Q : List V → Hp → Prop) (us : List Value) (s' : Shared) : Prop := ∃ vs H', Inv X pins σ H' s' ∧ Vals vs us ∧ Q vs H'
def SP (X : Cx) (pins : List (Addr × Obj)) (D : Ends) (f : Flow) (s' : Shared) : Prop :=
  match f with
  | .next => ∃ σ' H', Inv X pins σ' H' s' ∧ D.nx σ' H'
  | .brk => ∃ σ' H', Inv X pins σ' H' s' ∧ D.bk σ' H'
  | .cont => ∃ σ' H', Inv X pins σ' H' s' ∧ D.ct σ' H'
  | .ret u => ∃ v σ' H', Inv X pins σ' H' s' ∧ RelV v u ∧ D.rt v H'
def PE (X : Cx) (e : Expr) (t : TE) : Prop :=
  ∀ (pins : List (Addr × Obj)) (s : Shared) (σ : St) (H : Hp) (Q : VK), Inv X pins σ H s → t σ H Q → wpAny (model X.prog X.w) X.A (eval e X.env) (EP X pins σ Q) X.xe s
def PT (X : Cx) (e : Expr) (t : TT) : Prop :=
  ∀ (pins : List (Addr × Obj)) (s : Shared) (σ : St) (H : Hp) (Q : Bool → Hp → Prop), Inv X pins σ H s → t σ H Q → wpAny (model X.prog X.w) X.A (isTrue e X.env (eval e X.env)) (TP X pins σ Q) X.xe s
def PW (X : Cx) (e : Expr) (t : TT) : Prop :=
  ∀ (whole : Sem Value) (pins : List (Addr × Obj)) (s : Shared) (σ : St) (H : Hp) (Q : Bool → Hp → Prop), Inv X pins σ H s → t σ H Q → wpAny (model X.prog X.w) X.A (isTrue e X.env whole) (TP X pins σ Q) X.xe s
theorem PW.pt {X : Cx} {e : Expr} {t : TT} (h : PW X e t) : PT X e t := h _
def PA (X : Cx) (es : List Expr) (t : TA) : Prop :=
  ∀ (pos : Pos) (pins : List (Addr × Obj)) (s : Shared) (σ : St) (H : Hp) (Q : List V → Hp → Prop), Inv X pins σ H s → t σ H Q → wpAny (model X.prog X.w) X.A (spliced (backTo pos (starEach es X.env))) (AP X pins σ Q) X.xe s
def PS (X : Cx) (st : Stmt) (t : TS) : Prop :=
  ∀ (pins : List (Addr × Obj)) (s : Shared) (σ : St) (H : Hp) (D : Ends), Inv X pins σ H s → t D σ H → wpAny (model X.prog X.w) X.A (exec st X.env) (SP X pins D) X.xe s
def PSs (X : Cx) (st : List Stmt) (t : TS) : Prop :=
  ∀ (pins : List (Addr × Obj)) (s : Shared) (σ : St) (H : Hp) (D : Ends), Inv X pins σ H s → t D σ H → wpAny (model X.prog X.w) X.A (execs st X.env) (SP X pins D) X.xe s
theorem thn {α : Type} {t : Sem α} {Q Q' : α → Shared → Prop} {M : Model} {A : Around} {E : Value → Shared → Prop} {s : Shared} (h : wpAny M A t Q E s) (hQ : ∀ a s, Q a s → Q' a s) : wpAny M A t Q' E s := wpAny_mono h hQ fun _ _ x => x
end L2
namespace L2
open PySem PySem.Spec PyProof.Rows
section
variable {X : Cx}
def tVar (i : Nat) : TE := fun σ H Q => ∃ v, σ[i]? = some (some v) ∧ Q v H
def tC (v : V) : TE := fun _ H Q => Q v H
theorem pe_var {i : Nat} {x : Str} {pos : Pos} (hN : X.N[i]? = some x) (hv : Vis X.env.scope x) (hd : (x == ("__debug__" : Str)) = false := by decide) (hcd : (x == ("__classdict__" : Str)) = false := by decide) : PE X (.Name x pos) (tVar i) := by
  intro pins s σ H Q I h
  obtain ⟨v, e, h⟩ := h
  obtain ⟨m, hn, hl⟩ := I.loc
  obtain ⟨u, r, l⟩ := hl i x v hN e hv
  have fin : EP X pins σ Q u s := ⟨v, H, I, r, h⟩
  rcases l with ⟨hk, hm⟩ | ⟨hk, c, hc, hcell⟩
  · exact wpAny_Name (wpAny_loadName_local I.ok.kind hk hn hm fin) hd
  · rcases hk with hk | hk
    · exact wpAny_Name (wpAny_loadName_cell I.ok.kind hk hc hcell fin) hd
    · exact wpAny_Name (wpAny_loadName_free I.ok.kind hk hc hcell fin hcd) hd
theorem pe_int {i j pos} : PE X (.Constant (.int i) j pos) (tC (.int i)) := fun _ _ _ H _ I h => wpAny_Constant_int ⟨.int i, H, I.tok _, ⟨_, rfl⟩, h⟩
theorem pe_bl {b j pos} : PE X (.Constant (.bool b) j pos) (tC (.bl b)) := fun _ _ _ H _ I h => Constant_bool ⟨.bl b, H, I, rfl, h⟩
theorem pe_non {j pos} : PE X (.Constant .none j pos) (tC .non) := fun _ _ _ H _ I h => Constant_none ⟨.non, H, I, rfl, h⟩
def Gl (X : Cx) (x : Str) : Prop := X.env.kindOf x = some .globalImplicit
theorem ld_glob {E : Value → Shared → Prop} {pins : List (Addr × Obj)} {s : Shared} {σ : St} {H : Hp} {x : Str} {u : Value} {pos : Pos} {Q : Value → Shared → Prop} (I : Inv X pins σ H s) (hg : Gl X x) (hm : X.mg x = some u) (h : Q u s)
    (hd : (x == ("__debug__" : Str)) = false := by decide) : wpAny (model X.prog X.w) X.A (eval (.Name x pos) X.env) Q E s :=
  Calls.Name_function_global I.ok.kind hg (Calls.loadGlobal_global (by rw [I.ok.glob]; exact I.mod.glob.keeps I.bk) hm h) hd
theorem ld_blt {E : Value → Shared → Prop} {pins : List (Addr × Obj)} {s : Shared} {σ : St} {H : Hp} {x : Str} {u : Value} {pos : Pos} {Q : Value → Shared → Prop} (I : Inv X pins σ H s) (hg : Gl X x) (hm : X.mg x = none) (hv : bootBuiltins x = some u) (h : Q u s)
    (hn : x ≠ "__name__" := by decide) (hd : (x == ("__debug__" : Str)) = false := by decide) : wpAny (model X.prog X.w) X.A (eval (.Name x pos) X.env) Q E s := by
  obtain ⟨mb, h1, h2⟩ := I.mod.blt
  exact Calls.Name_function_global I.ok.kind hg (Calls.loadGlobal_builtin (by rw [I.ok.glob]; exact I.mod.glob.keeps I.bk) hm (by rw [I.ok.blt]; exact h1.keeps I.bk) ((h2 x hn).trans hv) h) hd
theorem pe_glob {x : Str} {v : V} {u : Value} {pos : Pos} (hg : Gl X x) (hm : X.mg x = some u) (r : RelV v u) (hd : (x == ("__debug__" : Str)) = false := by decide) : PE X (.Name x pos) (tC v) :=
  fun _ _ _ H _ I h => ld_glob I hg hm ⟨v, H, I, r, h⟩ hd
variable {a b : Expr} {ta tb : TE} {pos : Pos}
def PC (X : Cx) (op : CmpOp) (a b : Expr) (t : TE) : Prop :=
  ∀ (pins : List (Addr × Obj)) (s : Shared) (σ : St) (H : Hp) (Q : VK), Inv X pins σ H s → t σ H Q →
    wpAny (model X.prog X.w) X.A (eval a X.env) (fun v s₁ => wpAny (model X.prog X.w) X.A (eval b X.env) (fun u s₂ => wpAny (model X.prog X.w) X.A (compareOp op v u) (EP X pins σ Q) X.xe s₂) X.xe s₁) X.xe s
theorem nobehind (b : Expr) {op : CmpOp} (h : op ≠ .In) (h2 : op ≠ .NotIn) : behindInMarks op b = false := by
  have e1 : (op == CmpOp.In) = false := by cases op <;> first | rfl | exact absurd rfl h
  have e2 : (op == CmpOp.NotIn) = false := by cases op <;> first | rfl | exact absurd rfl h2
  cases b <;> simp [behindInMarks, e1, e2]
def tIsN (ta : TE) : TE := fun σ H Q => ta σ H fun x H1 => Q (.bl (decide (x = .non))) H1
def tNotN (ta : TE) : TE := fun σ H Q => ta σ H fun x H1 => Q (.bl (!decide (x = .non))) H1
theorem RelV.none_iff {x : V} {v : Value} (r : RelV x v) : (v == Value.none) = decide (x = .non) := by
  cases x with
  | non => cases r; rfl
  | bl _ => cases r; rfl
  | int _ => obtain ⟨t, rfl⟩ := r; rfl
  | str _ => obtain ⟨t, rfl⟩ := r; rfl
  | byt _ => obtain ⟨t, rfl⟩ := r; rfl
  | flt _ => obtain ⟨t, rfl⟩ := r; rfl
  | ref _ => cases r; rfl
  | ty _ => cases r; rfl
theorem pc_isN {j pos'} (ha : PE X a ta) : PC X .Is a (.Constant .none j pos') (tIsN ta) := by
  intro pins s σ H Q I h
  refine thn (ha pins s σ H _ I h) fun v s1 ⟨x, H1, I1, r1, q1⟩ => ?_
  exact Constant_none (is_none_gen ⟨.bl _, H1, I1, by rw [r1.none_iff]; rfl, q1⟩)
theorem pc_notN {j pos'} (ha : PE X a ta) : PC X .IsNot a (.Constant .none j pos') (tNotN ta) := by
  intro pins s σ H Q I h
  refine thn (ha pins s σ H _ I h) fun v s1 ⟨x, H1, I1, r1, q1⟩ => ?_
  exact Constant_none (isnot_none_gen ⟨.bl _, H1, I1, by rw [r1.none_iff]; rfl, q1⟩)
def tB (t : TE) : TT := fun σ H Q => t σ H fun x H1 => ∃ c, x = .bl c ∧ Q c H1
theorem pt_cmp {op : CmpOp} {t : TE} (h : PC X op a b t) (h1 : behindInMarks op b = false := by first | exact nobehind _ (by decide) (by decide) | rfl) : PT X (.Compare a [op] [b] pos) (tB t) := by
  intro pins s σ H Q I hw
  refine wpAny_isTrue_Compare1 (thn (h pins s σ H _ I hw) fun v s1 h1 => thn h1 fun u s2 h2 => thn h2 fun c s3 ⟨x, H1, I1, r1, q1⟩ => ?_) h1
  obtain ⟨d, rfl, q⟩ := q1
  cases r1
  exact wpAny_truthy_bool ⟨H1, I1, q⟩
theorem pt_val {e : Expr} {t : TE} (h : PE X e t) (he : ∀ whole, isTrue e X.env whole = (do let v ← whole; standAt e.pos; holding [v] (truthy v)) := by intro _; rfl) : PT X e (tB t) := by
  intro pins s σ H Q I hw
  refine isTrue_plain (thn (h pins s σ H _ I hw) fun v s1 ⟨x, H1, I1, r1, q1⟩ => ?_) (he _)
  obtain ⟨d, rfl, q⟩ := q1
  cases r1
  exact wpAny_truthy_bool ⟨H1, I1, q⟩
variable {tA tB' : TT} {rest : List Expr}
def tAnd (t u : TT) : TT := fun σ H Q => t σ H fun c H1 => if c = true then u σ H1 Q else Q false H1
def tOr (t u : TT) : TT := fun σ H Q => t σ H fun c H1 => if c = true then Q true H1 else u σ H1 Q
def tNot (t : TT) : TT := fun σ H Q => t σ H fun c H1 => Q (!c) H1
theorem pw_and1 (ha : PT X a tA) : PW X (.BoolOp .And [a] pos) tA := by
  intro wh pins s σ H Q I h
  refine isTrue_and (thn (ha pins s σ H Q I h) fun c s1 e => ?_)
  cases c with
  | true => exact isTrue_and_nil e
  | false => exact e
theorem pw_or1 (ha : PT X a tA) : PW X (.BoolOp .Or [a] pos) tA := by
  intro wh pins s σ H Q I h
  refine isTrue_or (thn (ha pins s σ H Q I h) fun c s1 e => ?_)
  cases c with
  | false => exact isTrue_or_nil e
  | true => exact e
theorem pw_and (ha : PT X a tA) (hb : PW X (.BoolOp .And (b :: rest) pos) tB') : PW X (.BoolOp .And (a :: b :: rest) pos) (tAnd tA tB') := by
  intro wh pins s σ H Q I h
  refine isTrue_and (thn (ha pins s σ H _ I h) fun c s1 ⟨H1, I1, q1⟩ => ?_)
  cases c with
  | true => exact hb wh pins s1 σ H1 Q I1 q1
  | false => exact ⟨H1, I1, q1⟩
theorem pw_or (ha : PT X a tA) (hb : PW X (.BoolOp .Or (b :: rest) pos) tB') : PW X (.BoolOp .Or (a :: b :: rest) pos) (tOr tA tB') := by
  intro wh pins s σ H Q I h
  refine isTrue_or (thn (ha pins s σ H _ I h) fun c s1 ⟨H1, I1, q1⟩ => ?_)
  cases c with
  | true => exact ⟨H1, I1, q1⟩
  | false => exact hb wh pins s1 σ H1 Q I1 q1
theorem pt_not (ha : PT X a tA) : PT X (.UnaryOp .Not a pos) (tNot tA) := by
  intro pins s σ H Q I h
  exact isTrue_not (ha pins s σ H (fun c H1 => Q (!c) H1) I h)
def tAndV (ta tb : TE) : TE := fun σ H Q => ta σ H fun x H1 => ∃ c, x = .bl c ∧ if c = true then tb σ H1 Q else Q (.bl false) H1
theorem pe_one {op} {t : TE} (h : PE X a t) : PE X (.BoolOp op [a] pos) t := fun pins s σ H Q I hw => BoolOp_one (h pins s σ H Q I hw)
theorem pe_and (ha : PE X a ta) (hb : PE X (.BoolOp .And (b :: rest) pos) tb) : PE X (.BoolOp .And (a :: b :: rest) pos) (tAndV ta tb) := by
  intro pins s σ H Q I h
  refine BoolOp_and (thn (ha pins s σ H _ I h) fun v s1 ⟨x, H1, I1, r1, q1⟩ => ?_)
  obtain ⟨c, rfl, q1⟩ := q1
  cases r1
  refine wpAny_truthy_bool ?_
  cases c with
  | true => exact hb pins s1 σ H1 Q I1 q1
  | false => exact ⟨.bl false, H1, I1, rfl, q1⟩
def tIf (t : TT) (ta tb : TE) : TE := fun σ H Q => t σ H fun c H1 => if c = true then ta σ H1 Q else tb σ H1 Q
theorem pe_ifExp {c : Expr} (hc : PT X c tA) (ha : PE X a ta) (hb : PE X b tb) : PE X (.IfExp c a b pos) (tIf tA ta tb) := by
  intro pins s σ H Q I h
  refine wpAny_IfExp (thn (hc pins s σ H _ I h) fun d s1 ⟨H1, I1, q1⟩ => ?_)
  cases d with
  | true => exact ha pins s1 σ H1 Q I1 q1
  | false => exact hb pins s1 σ H1 Q I1 q1
end
end L2
namespace L2
open PySem PySem.Spec PyProof.Rows
def SqL (K : PySem.W.Frag) (H : Hp) (a : Addr) (xs : List V) : Prop :=
  Rd H a (.lst xs) ∨
    ∃ (o : Obj) (its : Array Value) (n : Nat), K.lookup a = some o ∧ o.cls = .type "list" ∧ o.dict = none ∧ o.data = .seq its n ∧ its.size ≤ sizeLine ∧ Vals xs its.toList
def SqT (K : PySem.W.Frag) (H : Hp) (a : Addr) (xs : List V) : Prop :=
  Rd H a (.tup xs) ∨
    ∃ (o : Obj) (its : Array Value) (n : Nat), K.lookup a = some o ∧ o.cls = .type "tuple" ∧ o.data = .seq its n ∧ its.size ≤ sizeLine ∧ Vals xs its.toList
def absV : Value → Option V
  | .none => some .non
  | .bool b => some (.bl b)
  | .int i _ => some (.int i)
  | .str x _ => some (.str x)
  | .bytes b _ => some (.byt b)
  | .float b _ => some (.flt b)
  | .ref a => some (.ref a)
  | .type n => some (.ty n)
  | _ => none
theorem RelV.abs {x : V} {u : Value} (r : RelV x u) : absV u = some x := by
  cases x with
  | non => cases r; rfl
  | bl _ => cases r; rfl
  | int _ => obtain ⟨t, rfl⟩ := r; rfl
  | str _ => obtain ⟨t, rfl⟩ := r; rfl
  | byt _ => obtain ⟨t, rfl⟩ := r; rfl
  | flt _ => obtain ⟨t, rfl⟩ := r; rfl
  | ref _ => cases r; rfl
  | ty _ => cases r; rfl
theorem RelV.inj {x y : V} {u : Value} (r : RelV x u) (q : RelV y u) : x = y := Option.some.inj (r.abs.symm.trans q.abs)
theorem Vals.inj : ∀ {xs ys : List V} {us : List Value}, Vals xs us → Vals ys us → xs = ys
  | _, _, _, .nil, .nil => rfl
  | _, _, _, .cons r t, .cons r' t' => by rw [r.inj r', Vals.inj t t']
section
variable {X : Cx} {pins : List (Addr × Obj)} {σ : St} {H : Hp} {s : Shared} {a : Addr} {xs ys : List V}
theorem SqL.of {K : PySem.W.Frag} (h : H a = some (.lst xs)) : SqL K H a xs := .inl (.inl h)
theorem SqT.of {K : PySem.W.Frag} (h : H a = some (.tup xs)) : SqT K H a xs := .inl (.inl h)
theorem Inv.list (I : Inv X pins σ H s) (h : SqL X.K H a xs) : ∃ its : List Value, Vals xs its ∧ PlainL s.heap a its.toArray ∧ xs.length ≤ sizeLine := by
  rcases h with h | ⟨o, its, n, hk, hc, hd, hs, hz, r⟩
  · obtain ⟨z, its, n, r, e⟩ := h.ok I.hok
    exact ⟨its, r, ⟨_, n, e, rfl, rfl, rfl⟩, z⟩
  · refine ⟨its.toList, r, ⟨o, n, I.kIn a o hk, hc, hd, by simpa using hs⟩, ?_⟩
    have e := r.length
    simp only [Array.length_toList] at e
    omega
theorem Inv.tuple (I : Inv X pins σ H s) (h : SqT X.K H a xs) : ∃ its : List Value, Vals xs its ∧ IsTup s.heap a its.toArray ∧ xs.length ≤ sizeLine := by
  rcases h with h | ⟨o, its, n, hk, hc, hs, hz, r⟩
  · obtain ⟨z, its, r, p⟩ := h.ok I.hok
    exact ⟨its, r, p, z⟩
  · refine ⟨its.toList, r, ⟨o, I.kIn a o hk, hc, n, by simpa using hs⟩, ?_⟩
    have e := r.length
    simp only [Array.length_toList] at e
    omega
theorem Inv.list_inj (I : Inv X pins σ H s) (h : SqL X.K H a xs) (h' : SqL X.K H a ys) : xs = ys := by
  obtain ⟨its, r, ⟨o, n, e, _, _, d⟩, _⟩ := I.list h
  obtain ⟨its', r', ⟨o', n', e', _, _, d'⟩, _⟩ := I.list h'
  rw [e] at e'; cases e'
  rw [d] at d'
  injection d' with d1 _
  have : its = its' := by simpa using congrArg Array.toList d1
  subst this
  exact r.inj r'
theorem Inv.tuple_inj (I : Inv X pins σ H s) (h : SqT X.K H a xs) (h' : SqT X.K H a ys) : xs = ys := by
  obtain ⟨its, r, ⟨o, e, _, n, d⟩, _⟩ := I.tuple h
  obtain ⟨its', r', ⟨o', e', _, n', d'⟩, _⟩ := I.tuple h'
  rw [e] at e'; cases e'
  rw [d] at d'
  injection d' with d1 _
  have : its = its' := by simpa using congrArg Array.toList d1
  subst this
  exact r.inj r'
end
abbrev Cx.wish (X : Cx) (E : Value → Shared → Prop) : Cx := { X with xe := E }
abbrev Cx.nox (X : Cx) : Cx := X.wish fun _ _ => False
theorem Cx.Ok.wish {X : Cx} (ok : X.Ok) (E : Value → Shared → Prop) : (X.wish E).Ok :=
  ⟨ok.mod, ok.kind, ok.glob, ok.blt, ok.above, ok.inj, ok.has, ok.cab, ok.hd, ok.frames, ok.stk, ok.exf, ok.bs, ok.bsz, ok.noex, ok.exfs, ok.funs, ok.frf⟩
theorem Cx.Ok.unwish {X : Cx} {E : Value → Shared → Prop} (ok : (X.wish E).Ok) : X.Ok :=
  ⟨ok.mod, ok.kind, ok.glob, ok.blt, ok.above, ok.inj, ok.has, ok.cab, ok.hd, ok.frames, ok.stk, ok.exf, ok.bs, ok.bsz, ok.noex, ok.exfs, ok.funs, ok.frf⟩
section
variable {X : Cx} {pins : List (Addr × Obj)} {σ : St} {H : Hp} {s : Shared} {E : Value → Shared → Prop}
theorem Inv.wish (I : Inv X pins σ H s) (E : Value → Shared → Prop) : Inv (X.wish E) pins σ H s := ⟨I.ok.wish E, I.os, I.bare, I.base, I.loc, I.cell, I.free, I.freeC, I.pin, I.hok, I.len⟩
theorem Inv.unwish (I : Inv (X.wish E) pins σ H s) : Inv X pins σ H s := ⟨I.ok.unwish, I.os, I.bare, I.base, I.loc, I.cell, I.free, I.freeC, I.pin, I.hok, I.len⟩
theorem SP.unwish {D : Ends} {f : Flow} {s' : Shared} (h : SP (X.wish E) pins D f s') : SP X pins D f s' := by
  cases f with
  | next => obtain ⟨σ', H', I, q⟩ := h; exact ⟨σ', H', I.unwish, q⟩
  | brk => obtain ⟨σ', H', I, q⟩ := h; exact ⟨σ', H', I.unwish, q⟩
  | cont => obtain ⟨σ', H', I, q⟩ := h; exact ⟨σ', H', I.unwish, q⟩
  | ret u => obtain ⟨v, σ', H', I, r, q⟩ := h; exact ⟨v, σ', H', I.unwish, r, q⟩
theorem PSs.nox {st : List Stmt} {t : TS} (h : PSs X.nox st t) : PSs X st t := fun pins s σ H D I hw =>
  wpAny_mono (h pins s σ H D (I.wish _) hw) (fun _ _ q => q.unwish) fun _ _ z => False.elim z
end
section
variable {X : Cx} {st : Stmt} {rest : List Stmt} {t u : TS} {e : Expr} {te : TE} {pos : Pos}
def tNext : TS := fun D σ H => D.nx σ H
def tSeq (t u : TS) : TS := fun D σ H => t { D with nx := u D } σ H
theorem pss_nil : PSs X [] tNext := fun _ _ σ H _ I h => wpAny_execs_nil ⟨σ, H, I, h⟩
theorem pss_cons (h1 : PS X st t) (h2 : PSs X rest u) : PSs X (st :: rest) (tSeq t u) := by
  intro pins s σ H D I h
  refine wpAny_execs_cons (thn (h1 pins s σ H { D with nx := u D } I h) fun f s1 q => ?_)
  cases f with
  | next =>
    obtain ⟨σ', H', I', q⟩ := q
    exact h2 pins s1 σ' H' D I' q
  | ret v => exact q
  | brk => exact q
  | cont => exact q
theorem pss_one (h1 : PS X st t) : PSs X [st] t := by
  intro pins s σ H D I h
  refine wpAny_execs_cons (thn (h1 pins s σ H D I h) fun f s1 q => ?_)
  cases f with
  | next => exact wpAny_execs_nil q
  | ret v => exact q
  | brk => exact q
  | cont => exact q
theorem Inv.quiet {pins : List (Addr × Obj)} {σ : St} {H : Hp} {s : Shared} (I : Inv X pins σ H s) : interactive X.env = false := by simp [interactive, I.ok.kind]
def tDrop (te : TE) : TS := fun D σ H => te σ H fun _ H1 => D.nx σ H1
theorem ps_expr (he : PE X e te) (hs : swapsWith e none pos.line X.env = pure false := by rfl) : PS X (.Expr e pos) (tDrop te) := by
  intro pins s σ H D I h
  exact wpAny_Expr_any (thn (he pins s σ H _ I h) fun v s1 ⟨x, H1, I1, r1, q1⟩ => ⟨σ, H1, I1, q1⟩) I.quiet hs
def tRet (te : TE) : TS := fun D σ H => te σ H D.rt
theorem ps_ret (he : PE X e te) : PS X (.Return (some e) pos) (tRet te) := by
  intro pins s σ H D I h
  exact wpAny_Return_some (thn (he pins s σ H _ I h) fun v s1 ⟨x, H1, I1, r1, q1⟩ => ⟨x, σ, H1, I1, r1, q1⟩)
def tRetN : TS := fun D _ H => D.rt .non H
theorem ps_retN : PS X (.Return none pos) tRetN := fun _ _ σ H _ I h => wpAny_Return_none ⟨.non, σ, H, I, rfl, h⟩
def tIfS (c : TT) (t u : TS) : TS := fun D σ H => c σ H fun b H1 => if b = true then t D σ H1 else u D σ H1
theorem ps_if {c : Expr} {a b : List Stmt} {tc : TT} (hc : PT X c tc) (ha : PSs X a t) (hb : PSs X b u) : PS X (.If c a b pos) (tIfS tc t u) := by
  intro pins s σ H D I h
  refine wpAny_If (thn (hc pins s σ H _ I h) fun d s1 ⟨H1, I1, q1⟩ => ?_)
  cases d with
  | true => exact ha pins s1 σ H1 D I1 q1
  | false => exact hb pins s1 σ H1 D I1 q1
end
abbrev TG := V → St → Hp → (St → Hp → Prop) → Prop
abbrev TGs := List V → St → Hp → (St → Hp → Prop) → Prop
def PG (X : Cx) (target : Expr) (t : TG) : Prop :=
  ∀ (pins : List (Addr × Obj)) (s : Shared) (σ : St) (H : Hp) (v : V) (u : Value) (Q : St → Hp → Prop), Inv X pins σ H s → RelV v u → t v σ H Q →
    wpAny (model X.prog X.w) X.A (assign target X.env u) (fun _ s' => ∃ σ' H', Inv X pins σ' H' s' ∧ Q σ' H') X.xe s
def PGs (X : Cx) (ts : List Expr) (t : TGs) : Prop :=
  ∀ (pins : List (Addr × Obj)) (s : Shared) (σ : St) (H : Hp) (vs : List V) (us : List Value) (Q : St → Hp → Prop), Inv X pins σ H s → Vals vs us → t vs σ H Q →
    wpAny (model X.prog X.w) X.A (assignInOrder ((assignEach ts X.env).map (·.2)) us) (fun _ s' => ∃ σ' H', Inv X pins σ' H' s' ∧ Q σ' H') X.xe s
abbrev TIp := V → V → Hp → VK → Prop
def PIp (X : Cx) (op : Operator) (t : TIp) : Prop :=
  ∀ (pins : List (Addr × Obj)) (s : Shared) (σ : St) (H : Hp) (x y : V) (v u : Value) (Q : VK), Inv X pins σ H s → RelV x v → RelV y u → t x y H Q →
    wpAny (model X.prog X.w) X.A (inplaceOp op v u) (EP X pins σ Q) X.xe s
section
variable {X : Cx} {pos : Pos}
def gName (i : Nat) : TG := fun v σ H Q => Q (σ.set i (some v)) H
theorem pg_name {i : Nat} {x : Str} (hN : X.N.Nodup) (hi : X.N[i]? = some x) (hx : Loc X.env.scope x) (hf : X.fn x = true ∨ X.env.scope.names.lookup x = some .local := by first | exact .inl rfl | exact .inr rfl | assumption) : PG X (.Name x pos) (gName i) := by
  intro pins s σ H v u Q I r h
  exact wpAny_assign_Name (store_ok I hN hi hx r (fun s' I' => ⟨_, H, I', h⟩) hf)
def gNil : TGs := fun vs σ H Q => vs = [] ∧ Q σ H
def gCons (t : TG) (u : TGs) : TGs := fun vs σ H Q => ∃ v r, vs = v :: r ∧ t v σ H fun σ' H' => u r σ' H' Q
theorem pgs_nil : PGs X [] gNil := by
  intro pins s σ H vs us Q I r h
  obtain ⟨e, h⟩ := h
  subst e
  cases r
  exact assignInOrder_nil ⟨σ, H, I, h⟩
theorem pgs_cons {e : Expr} {es : List Expr} {t : TG} {u : TGs} (h1 : PG X e t) (h2 : PGs X es u)
    (hs : (assignEach (e :: es) X.env).map (·.2) = assign e X.env :: (assignEach es X.env).map (·.2) := by rfl) : PGs X (e :: es) (gCons t u) := by
  intro pins s σ H vs us Q I r h
  obtain ⟨v, vr, e1, h⟩ := h
  subst e1
  cases r with
  | cons r rr =>
    rw [hs]
    refine assignInOrder_cons (thn (h1 pins s σ H _ _ _ I r h) fun _ s1 ⟨σ1, H1, I1, q1⟩ => ?_)
    exact h2 pins s1 σ1 H1 _ _ Q I1 rr q1
def gTup (K : PySem.W.Frag) (n : Nat) (t : TGs) : TG := fun v σ H Q => ∃ a xs, v = .ref a ∧ SqT K H a xs ∧ xs.length = n ∧ t xs σ H Q
theorem pg_tup {es : List Expr} {k : Nat} {t : TGs} {n : Nat} (hc : X.calm = true) (h : PGs X es t)
    (hn : (assignEach es X.env).length = n := by rfl) (hst : (assignEach es X.env).findIdx? (·.1) = none := by rfl) : PG X (.Tuple es k pos) (gTup X.K n t) := by
  intro pins s σ H v u Q I r hw
  obtain ⟨a, xs, e1, hq, hl, hw⟩ := hw
  subst e1
  cases r
  obtain ⟨its, rv, ht, hz⟩ := I.tuple hq
  refine assign_Tuple_tuple (I.ok.hd hc) ht (by simp [hn, ← hl, rv.length]) hst fun h' hx => ?_
  have I1 : Inv X pins σ H { s with heap := h' } := I.kept (t' := s.toks) fun b o e => hx b o (Nat.ne_of_lt (Heap.lt_size e)) e
  exact h pins _ σ H xs _ Q I1 (by simpa using rv) hw
def tAsg (te : TE) (g : TG) : TS := fun D σ H => te σ H fun x H1 => g x σ H1 D.nx
theorem ps_set {i : Nat} {x : Str} {e : Expr} {te : TE} {pos' : Pos} (hN : X.N.Nodup) (hi : X.N[i]? = some x) (hx : Loc X.env.scope x) (he : PE X e te) (hs : swapsWith e (some (.Name x pos')) pos.line X.env = pure false := by rfl) (hf : X.fn x = true ∨ X.env.scope.names.lookup x = some .local := by first | exact .inl rfl | exact .inr rfl | assumption) :
    PS X (.Assign [.Name x pos'] e pos) (tAsg te (gName i)) := by
  intro pins s σ H D I h
  refine wpAny_Assign_Name (thn (he pins s σ H _ I h) fun v s1 ⟨y, H1, I1, r1, q1⟩ => ?_) hs
  exact store_ok I1 hN hi hx r1 (fun s2 I2 => ⟨_, H1, I2, q1⟩) hf
def tAug (i : Nat) (te : TE) (ti : TIp) : TS := fun D σ H => ∃ x, σ[i]? = some (some x) ∧ te σ H fun y H1 => ti x y H1 fun z H2 => D.nx (σ.set i (some z)) H2
theorem ps_aug {i : Nat} {x : Str} {e : Expr} {te : TE} {op : Operator} {ti : TIp} {pos' : Pos} (hN : X.N.Nodup) (hi : X.N[i]? = some x) (hx : Loc X.env.scope x) (he : PE X e te) (ho : PIp X op ti) (hf : X.fn x = true ∨ X.env.scope.names.lookup x = some .local := by first | exact .inl rfl | exact .inr rfl | assumption) :
    PS X (.AugAssign (.Name x pos') op e pos) (tAug i te ti) := by
  intro pins s σ H D I h
  obtain ⟨v, e1, h⟩ := h
  obtain ⟨m, hn, hl⟩ := I.loc
  have vis : Vis X.env.scope x := by rcases hx with k | k; exact .inl k; exact .inr (.inl k)
  obtain ⟨u, r, l⟩ := hl i x v hi e1 vis
  refine wpAny_AugAssign_Name ?_
  have go : wpAny (model X.prog X.w) X.A (eval e X.env) (fun w s₂ => wpAny (model X.prog X.w) X.A (inplaceOp op u w) (fun r s₃ => wpAny (model X.prog X.w) X.A (storeName X.env x r) (fun _ => SP X pins D .next) X.xe s₃) X.xe s₂) X.xe s := by
    refine thn (he pins s σ H _ I h) fun w s1 ⟨y, H1, I1, r1, q1⟩ => ?_
    refine thn (ho pins s1 σ H1 v y u w _ I1 r r1 q1) fun z s2 ⟨zv, H2, I2, r2, q2⟩ => ?_
    exact store_ok I2 hN hi hx r2 (fun s3 I3 => ⟨_, H2, I3, q2⟩) hf
  rcases l with ⟨hk, hm⟩ | ⟨hk, c, hc, hcell⟩
  · exact wpAny_loadName_local I.ok.kind hk hn hm go
  · rcases hk with hk | hk
    · exact wpAny_loadName_cell I.ok.kind hk hc hcell go
    · rcases hx with k | k
      · have : X.env.scope.names.lookup x = some .free := hk
        rw [k] at this; cases this
      · have : X.env.scope.names.lookup x = some .free := hk
        rw [k] at this; cases this
end
section
variable {X : Cx} {pos : Pos}
end
structure It where
  go : Nat → Hp → Prop
  yld : Nat → Hp → V → Hp → Prop
  stop : Nat → Hp → Prop
def FpOk (X : Cx) (pins : List (Addr × Obj)) (H : Hp) (b : Addr) : Prop :=
  H b = none ∧ b ≠ X.env.locals ∧ b ∉ X.fs ∧ (b ∈ X.ex ∨ X.s_0.heap.objs.size ≤ b) ∧ (∀ x c, X.env.cells.lookup x = some c → c ≠ b) ∧ ∀ p ∈ X.pn ++ pins, p.1 ≠ b
theorem Inv.fpOk {X : Cx} {pins : List (Addr × Obj)} {σ : St} {H H' : Hp} {s : Shared} {b : Addr} (I : Inv X pins σ H s) (hb : s.heap.objs.size ≤ b) (hn : H' b = none) : FpOk X pins H' b := by
  refine ⟨hn, Nat.ne_of_gt (Nat.lt_of_lt_of_le I.lt hb), I.nofs hb, .inr (Nat.le_trans I.sz hb), fun x c e z => ?_, fun p hp z => ?_⟩
  · obtain ⟨v, q⟩ := I.cell x c e
    exact absurd (Nat.lt_of_lt_of_le q.lt (by rw [z]; exact hb)) (Nat.lt_irrefl _)
  · exact absurd (Nat.lt_of_lt_of_le (Heap.lt_size (I.pin p hp).1) (by rw [z]; exact hb)) (Nat.lt_irrefl _)
structure Turn (P : Program) (w : World) (K : PySem.W.Frag) (tg : Expr) (J : It) (fp : List Addr) (it : Addr) (tn : Nat → Heap → Prop) : Prop where
  mem : it ∈ fp
  obj : ∀ i h, tn i h → ∀ b ∈ fp, ∃ o, h.get? b = some o ∧ ∀ v, o.data ≠ .cell v
  keep : ∀ i h h', tn i h → (∀ b ∈ fp, ∀ o, h.get? b = some o → h'.get? b = some o) → tn i h'
  item : ∀ (X : Cx), X.prog = P → X.w = w → X.K = K → X.calm = true → ∀ (i : Nat) (pins : List (Addr × Obj)) (s : Shared) (σ : St) (H : Hp) (E : Value → Shared → Prop), Inv X pins σ H s → (∀ b ∈ fp, FpOk X pins H b) → tn i s.heap → J.go i H →
    wpAny (model P w) X.A (pyNext (.ref it)) (fun r s1 => ∃ u, r = some u ∧
      wpAny (model P w) X.A (letOwnedTupleGo tg (.ref it) u) (fun _ s2 => ∃ x H', Inv X pins σ H' s2 ∧ RelV x u ∧ J.yld i H x H' ∧ tn (i + 1) s2.heap ∧ ∀ b ∈ fp, H' b = none) E s1) E s
  done : ∀ (X : Cx), X.prog = P → X.w = w → X.K = K → X.calm = true → ∀ (i : Nat) (pins : List (Addr × Obj)) (s : Shared) (σ : St) (H : Hp) (E : Value → Shared → Prop), Inv X pins σ H s → (∀ b ∈ fp, FpOk X pins H b) → tn i s.heap → J.stop i H →
    wpAny (model P w) X.A (pyNext (.ref it)) (fun r s1 => r = none ∧ Inv X pins σ H s1) E s
  self : ∀ (A : Around) (i : Nat) (s : Shared) (Q : Value → Shared → Prop) (E : Value → Shared → Prop), tn i s.heap → Q (.ref it) s → wpAny (model P w) A (pyIter (.ref it)) Q E s
abbrev TI := St → Hp → (It → Hp → Prop) → Prop
def PIE (X : Cx) (pins : List (Addr × Obj)) (σ : St) (tg : Expr) (R : It → Hp → Prop) (itv : Value) (s2 : Shared) : Prop :=
  ∃ (it : Addr) (fp : List Addr) (tn : Nat → Heap → Prop) (J : It) (H' : Hp), itv = .ref it ∧ Inv X pins σ H' s2 ∧ Turn X.prog X.w X.K tg J fp it tn ∧ tn 0 s2.heap ∧ (∀ b ∈ fp, FpOk X pins H' b) ∧ R J H'
def PI (X : Cx) (tg iter : Expr) (wi : TI) : Prop :=
  ∀ (pins : List (Addr × Obj)) (s : Shared) (σ : St) (H : Hp) (R : It → Hp → Prop), Inv X pins σ H s → wi σ H R →
    wpAny (model X.prog X.w) X.A (eval iter X.env) (fun v s1 => wpAny (model X.prog X.w) X.A (pyIter v) (PIE X pins σ tg R) X.xe s1) X.xe s
theorem go_of {M : Model} {A : Around} {E : Value → Shared → Prop} {s : Shared} {tg : Expr} {it : Addr} {u : Value} {o : Obj} {n : String} {vs : Array Value} {Q : Unit → Shared → Prop} (ho : s.heap.get? it = some o) (hc : o.cls = .type n) (hd : o.data = .fields vs)
    (hn : ["enumerate", "zip", "dict_itemiterator", "dict_reverseitemiterator", "odict_iterator", "itertools.zip_longest", "itertools.pairwise"].contains n = false) (hQ : Q () s) : wpAny M A (letOwnedTupleGo tg (.ref it) u) Q E s := by
  unfold letOwnedTupleGo
  cases tg <;> first
    | exact wpAny_pure hQ
    | (cases u <;> first
        | exact wpAny_pure hQ
        | (refine wpAny_bind (wpAny_load ho ?_)
           rw [hc, hd]
           show wpAny M A (if (["enumerate", "zip", "dict_itemiterator", "dict_reverseitemiterator", "odict_iterator", "itertools.zip_longest", "itertools.pairwise"].contains n && vs[0]? == some (rawInt _)) = true then _ else _) Q E s
           rw [if_neg (by intro h; rw [hn, Bool.false_and] at h; cases h)]
           exact wpAny_pure hQ))
def Itl (K : PySem.W.Frag) (a : Addr) : It :=
  ⟨fun i H => ∃ xs x, SqL K H a xs ∧ xs[i]? = some x, fun i H x H' => H' = H ∧ ∀ xs, SqL K H a xs → xs[i]? = some x, fun i H => ∃ xs, SqL K H a xs ∧ xs.length ≤ i⟩
def Itr (lo : Int) (n : Nat) : It := ⟨fun i _ => i < n, fun i H x H' => H' = H ∧ x = .int (lo + i), fun i _ => n ≤ i⟩
theorem turn_list {P : Program} {w : World} {K : PySem.W.Frag} {tg : Expr} (a it : Addr) : Turn P w K tg (Itl K a) [it] it (fun i h => h.IsListIter it a i) where
  mem := by simp
  obj := fun i h st b hb => by
    have e : b = it := by simpa using hb
    subst e
    obtain ⟨o, e, c, d⟩ := st
    exact ⟨o, e, fun v z => by rw [d] at z; cases z⟩
  keep := fun i h h' st k => st.at fun o e => k it (by simp) o e
  item := by
    intro X hP hw hK hc i pins s σ H E I hf st hg
    subst hP hw hK
    obtain ⟨xs, x, hq, hx⟩ := hg
    obtain ⟨its, rv, p, hz⟩ := I.list hq
    obtain ⟨u, hu, ru⟩ := rv.get hx
    obtain ⟨f0, f1, f2, f3, f4, f5⟩ := hf it (by simp)
    refine wpAny_pyNext_list_item st p.isList (x := u) (by simpa using hu) fun h' st' sb => ?_
    have I1 : Inv X pins σ H { s with heap := h' } := I.turned (t' := s.toks) (fun b o hb e => (sb.2 b hb).trans e) f0 f1 f3 f4 f5
    obtain ⟨o, e, c, d⟩ := id st'
    exact ⟨u, rfl, go_of (s := { s with heap := h' }) e c d (by decide) ⟨x, H, I1, ru, ⟨rfl, fun ys hy => by rw [I.list_inj hy hq]; exact hx⟩, st', fun b hb => (hf b hb).1⟩⟩
  done := by
    intro X hP hw hK hc i pins s σ H E I hf st hg
    subst hP hw hK
    obtain ⟨xs, hq, hx⟩ := hg
    obtain ⟨its, rv, p, hz⟩ := I.list hq
    obtain ⟨f0, f1, f2, f3, f4, f5⟩ := hf it (by simp)
    have hl := rv.length
    exact wpAny_pyNext_list_end (I.ok.hd hc) st p.isList (by simp; omega) fun h' eb => ⟨rfl, I.turned (t' := s.toks) (fun b o hb e => eb b o hb e) f0 f1 f3 f4 f5⟩
  self := fun _ _ _ _ _ st h => wpAny_pyIter_listiter st h
theorem turn_range {P : Program} {w : World} {K : PySem.W.Frag} {tg : Expr} (it : Addr) (lo : Int) (n : Nat) : Turn P w K tg (Itr lo n) [it] it (fun i h => IsRangeIter h it (lo + (i : Nat) * 1) ((n : Int) - (i : Nat)) 1) where
  mem := by simp
  obj := fun i h st b hb => by
    have e : b = it := by simpa using hb
    subst e
    exact ⟨_, st, fun v z => by
      have z' : Data.fields _ = Data.cell v := z
      cases z'⟩
  keep := fun i h h' st k => k it (by simp) _ st
  item := by
    intro X hP hw hK hc i pins s σ H E I hf st hg
    subst hP hw hK
    obtain ⟨f0, f1, f2, f3, f4, f5⟩ := hf it (by simp)
    have W := Walks.range (prog := X.prog) (w := X.w) (I.ok.hd hc) it lo 1 n
    refine W.item i s _ _ hg st fun v h' tk hv st' kk => ?_
    obtain ⟨t, rfl⟩ := hv
    have I1 : Inv X pins σ H { s with heap := h', toks := tk } := I.turned (fun b o hb e => kk b o (by simpa using hb) e) f0 f1 f3 f4 f5
    refine ⟨_, rfl, go_of (s := { s with heap := h', toks := tk }) (n := "range_iterator") st' rfl rfl (by decide) ⟨.int (lo + i), H, I1, ⟨t, ?_⟩, ⟨rfl, rfl⟩, st', fun b hb => (hf b hb).1⟩⟩
    rw [Int.mul_one]
  done := by
    intro X hP hw hK hc i pins s σ H E I hf st hg
    subst hP hw hK
    obtain ⟨f0, f1, f2, f3, f4, f5⟩ := hf it (by simp)
    exact wpAny_pyNext_range_end (I.ok.hd hc) st (by have : n ≤ i := hg; omega) fun h' eb => ⟨rfl, I.turned (t' := s.toks) (fun b o hb e => eb b o hb e) f0 f1 f3 f4 f5⟩
  self := fun _ _ _ _ _ st h => wpAny_pyIter_rangeiter st h
end L2
namespace L2
open PySem PySem.Spec PyProof.Rows
section
variable {X : Cx} {tg : Expr}
def iList (K : PySem.W.Frag) (tl : TE) : TI := fun σ H R => tl σ H fun x H1 => ∃ a, x = .ref a ∧ (∃ xs, SqL K H1 a xs) ∧ R (Itl K a) H1
theorem pi_list {l : Expr} {tl : TE} (hl : PE X l tl) : PI X tg l (iList X.K tl) := by
  intro pins s σ H R I h
  refine thn (hl pins s σ H _ I h) fun v s1 ⟨x, H1, I1, r1, q1⟩ => ?_
  obtain ⟨a, e, ⟨xs, hq⟩, q⟩ := q1
  subst e
  cases r1
  obtain ⟨its, rv, p, hz⟩ := I1.list hq
  refine wpAny_pyIter_list p.isList ?_
  refine ⟨s1.heap.objs.size, [s1.heap.objs.size], _, _, H1, rfl, I1.kept (t' := s1.toks) fun b o e => Heap.get?_push_of_some _ e, turn_list a _, ⟨_, Heap.get?_push_size _ rfl, rfl, rfl⟩, fun b hb => ?_, q⟩
  have e : b = s1.heap.objs.size := by simpa using hb
  subst e
  exact I1.fpOk (Nat.le_refl _) (I1.hok.fresh (Nat.le_refl _))
theorem range_it {pins : List (Addr × Obj)} {σ : St} {H : Hp} {s : Shared} {R : It → Hp → Prop} {E : Value → Shared → Prop} {lo hi : Int} {t u v : Tok} {tk : Nat} (I : Inv X pins σ H s) (h1 : -(2 ^ 62) ≤ lo) (h2 : lo < 2 ^ 62) (h3 : -(2 ^ 62) ≤ hi) (h4 : hi < 2 ^ 62)
    (q : R (Itr lo (hi - lo).toNat) H) : wpAny (model X.prog X.w) X.A (pyIter (.ref s.heap.objs.size)) (PIE X pins σ tg R) E { s with heap := s.heap.push { cls := .type "range", data := .fields #[.int lo t, .int hi u, .int 1 v] }, toks := tk } := by
  refine wpAny_pyIter_range (IsRange.new ..) (small_one h1 h2 h3 h4) ?_
  have I1 : Inv X pins σ H { s with heap := s.heap.push { cls := .type "range", data := .fields #[.int lo t, .int hi u, .int 1 v] }, toks := tk } := I.kept fun b o e => Heap.get?_push_of_some _ e
  refine ⟨(s.heap.push { cls := .type "range", data := .fields #[.int lo t, .int hi u, .int 1 v] }).objs.size, [(s.heap.push { cls := .type "range", data := .fields #[.int lo t, .int hi u, .int 1 v] }).objs.size], _, _, H, rfl,
    I1.kept (t' := tk) fun b o e => Heap.get?_push_of_some _ e, turn_range _ lo (hi - lo).toNat, ?_, fun b hb => ?_, q⟩
  · have e1 : lo + ((0 : Nat) : Int) * 1 = lo := by simp
    have e2 : (((hi - lo).toNat : Nat) : Int) - ((0 : Nat) : Int) = Builtin.Range.rangeSize lo hi 1 := by rw [rangeSize_one]; split <;> omega
    show IsRangeIter _ _ (lo + ((0 : Nat) : Int) * 1) ((((hi - lo).toNat : Nat) : Int) - ((0 : Nat) : Int)) 1
    rw [e1, e2]
    exact Heap.get?_push_size _ rfl
  · have e : b = (s.heap.push { cls := .type "range", data := .fields #[.int lo t, .int hi u, .int 1 v] }).objs.size := by simpa using hb
    subst e
    exact I1.fpOk (Nat.le_refl _) (I1.hok.fresh (Nat.le_refl _))
def iRng1 (ta : TA) : TI := fun σ H R => ta σ H fun vs H1 => ∃ j : Int, vs = [.int j] ∧ -(2 ^ 62) ≤ j ∧ j < 2 ^ 62 ∧ R (Itr 0 j.toNat) H1
def iRng2 (ta : TA) : TI := fun σ H R => ta σ H fun vs H1 => ∃ i j : Int, vs = [.int i, .int j] ∧ (-(2 ^ 62) ≤ i ∧ i < 2 ^ 62 ∧ -(2 ^ 62) ≤ j ∧ j < 2 ^ 62) ∧ R (Itr i (j - i).toNat) H1
theorem pi_range1 {a : Expr} {ta : TA} {p pos : Pos} (hg : Gl X "range") (hm : X.mg "range" = none) (ha : PA X [a] ta) (hs : starEach [a] X.env = [(false, eval a X.env)] := by rfl) : PI X tg (.Call (.Name "range" p) [a] [] pos) (iRng1 ta) := by
  intro pins s σ H R I h
  refine Call_ (ld_blt I hg hm boot_range (PyProof.Rows.callWith_type1 (thn (ha pos pins s σ H _ I h) fun us s1 ⟨vs, H1, I1, r1, q1⟩ => ?_) hs rfl))
  obtain ⟨j, e, q1, q2, q⟩ := q1
  subst e
  cases r1 with
  | cons r rr =>
    cases rr
    obtain ⟨t, rfl⟩ := r
    exact call_range_1 (range_it I1 (by omega) (by omega) q1 q2 (by simpa using q))
theorem pi_range2 {a b : Expr} {ta : TA} {p pos : Pos} (hg : Gl X "range") (hm : X.mg "range" = none) (ha : PA X [a, b] ta) (hs : starEach [a, b] X.env = [(false, eval a X.env), (false, eval b X.env)] := by rfl) (hs2 : starEach [b] X.env = [(false, eval b X.env)] := by rfl) :
    PI X tg (.Call (.Name "range" p) [a, b] [] pos) (iRng2 ta) := by
  intro pins s σ H R I h
  refine Call_ (ld_blt I hg hm boot_range (PyProof.Rows.callWith_type1 (thn (ha pos pins s σ H _ I h) fun us s1 ⟨vs, H1, I1, r1, q1⟩ => ?_) (by rw [hs, hs2]) (by rw [hs2]; rfl)))
  obtain ⟨i, j, e, ⟨q1, q2, q3, q4⟩, q⟩ := q1
  subst e
  cases r1 with
  | cons r rr =>
    cases rr with
    | cons r' rr =>
      cases rr
      obtain ⟨t, rfl⟩ := r
      obtain ⟨t', rfl⟩ := r'
      exact call_range_2 (range_it I1 q1 q2 q3 q4 q)
def tFor (wi : TI) (g : TG) (tb : TS) : TS := fun D σ H => wi σ H fun J H1 => ∃ W : Nat → Nat → St → Hp → Prop, (∃ m, W 0 m σ H1) ∧ ∀ i m σ H, W i m σ H →
  (J.stop i H ∧ D.nx σ H) ∨ (J.go i H ∧ ∃ N : St → Hp → Prop, (∀ σ' H', N σ' H' → ∃ m', m' < m ∧ W (i + 1) m' σ' H') ∧ ∀ x H', J.yld i H x H' → g x σ H' fun σ2 H2 => tb { D with nx := N, ct := N, bk := D.nx } σ2 H2)
def pinsAt (fp : List Addr) (h : Heap) : List (Addr × Obj) := fp.filterMap fun b => (h.get? b).map fun o => (b, o)
theorem mem_pinsAt {fp : List Addr} {h : Heap} {b : Addr} {o : Obj} (hb : b ∈ fp) (e : h.get? b = some o) : (b, o) ∈ pinsAt fp h := List.mem_filterMap.mpr ⟨b, hb, by rw [e]; rfl⟩
theorem of_pinsAt {fp : List Addr} {h : Heap} {p : Addr × Obj} (hp : p ∈ pinsAt fp h) : p.1 ∈ fp ∧ h.get? p.1 = some p.2 := by
  obtain ⟨b, hb, e⟩ := List.mem_filterMap.mp hp
  cases q : h.get? b with
  | none => rw [q] at e; cases e
  | some o =>
    rw [q] at e
    have e' : (b, o) = p := Option.some.inj e
    subst e'
    exact ⟨hb, q⟩
theorem Inv.pinned {pins : List (Addr × Obj)} {σ : St} {H : Hp} {s : Shared} {fp : List Addr} (I : Inv X pins σ H s) (hf : ∀ b ∈ fp, FpOk X pins H b) (ho : ∀ b ∈ fp, ∃ o, s.heap.get? b = some o ∧ ∀ v, o.data ≠ .cell v) : Inv X (pins ++ pinsAt fp s.heap) σ H s :=
  I.pins_of fun p hp => (List.mem_append.mp hp).elim (fun z => I.pin p (List.mem_append_right _ z)) fun z => by
    obtain ⟨hb, e⟩ := of_pinsAt z
    obtain ⟨f0, f1, f2, _⟩ := hf p.1 hb
    obtain ⟨o, e', d⟩ := ho p.1 hb
    rw [e] at e'; cases e'
    exact ⟨e, f0, f1, f2, d⟩
theorem Inv.unpinned {pins pl : List (Addr × Obj)} {σ : St} {H : Hp} {s : Shared} (I : Inv X (pins ++ pl) σ H s) : Inv X pins σ H s := I.pins_of fun p hp => I.pin p (List.mem_append_right _ (List.mem_append_left _ hp))
theorem ps_for {iter : Expr} {body : List Stmt} {wi : TI} {g : TG} {tb : TS} {pos : Pos} (hp : PassesOwn (model X.prog X.w) X.A X.env X.xe) (hc : X.calm = true) (hi : PI X tg iter wi) (hg : PG X tg g) (hb : PSs X body tb)
    (hs : ∀ x, foldedSetIterable iter X.env x = pure x := by intro _; rfl) : PS X (.For tg iter body [] pos) (tFor wi g tb) := by
  intro pins s σ H D I h
  refine wpAny_For (thn (hi pins s σ H _ I h) fun v s1 h1 => thn h1 fun itv s2 h2 => ?_) hs
  obtain ⟨it, fp, tn, J, H2, e, I2, T, st2, f2, W, ⟨m0, w0⟩, turn⟩ := h2
  subst e
  have stat : ∀ {H' : Hp}, (∀ b ∈ fp, H' b = none) → ∀ b ∈ fp, FpOk X pins H' b := fun hn b hb => ⟨hn b hb, (f2 b hb).2⟩
  refine codeAny_forLoop_any (fun n s' => ∃ i σ' H', Inv X pins σ' H' s' ∧ tn i s'.heap ∧ (∀ b ∈ fp, H' b = none) ∧ W i n σ' H') ?_ m0 ⟨0, σ, H2, I2, st2, fun b hb => (f2 b hb).1, w0⟩
  rintro n s3 ⟨i, σ3, H3, I3, st3, fr3, w3⟩
  rcases turn i n σ3 H3 w3 with ⟨stop, qn⟩ | ⟨go, N, hN, step⟩
  · refine wpAny_passesOwn hp (thn (T.done X rfl rfl rfl hc i pins s3 σ3 H3 X.xe I3 (stat fr3) st3 stop) fun r s4 ⟨hr, I4⟩ => ?_)
    subst hr
    exact wpAny_execs_nil ⟨σ3, H3, I4, qn⟩
  · refine wpAny_passesOwn hp (thn (T.item X rfl rfl rfl hc i pins s3 σ3 H3 X.xe I3 (stat fr3) st3 go) fun r s4 ⟨u, hr, h4⟩ => ?_)
    subst hr
    refine wpAny_passesOwn hp (thn h4 fun _ s5 ⟨x, H5, I5, r5, y5, st5, fr5⟩ => ?_)
    have I5' := I5.pinned (stat fr5) (T.obj _ _ st5)
    refine wpAny_passesOwn hp (thn (hg _ s5 σ3 H5 x u _ I5' r5 (step x H5 y5)) fun _ s6 ⟨σ6, H6, I6, q6⟩ => ?_)
    refine wpAny_passesOwn hp (thn (hb _ s6 σ6 H6 _ I6 q6) fun f s7 q7 => ?_)
    have again : ∀ {σ7 : St} {H7 : Hp}, Inv X (pins ++ pinsAt fp s5.heap) σ7 H7 s7 → N σ7 H7 → ∃ m, m < n ∧ ∃ i σ' H', Inv X pins σ' H' s7 ∧ tn i s7.heap ∧ (∀ b ∈ fp, H' b = none) ∧ W i m σ' H' := fun {σ7 H7} I7 n7 => by
      obtain ⟨m', hm, w7⟩ := hN σ7 H7 n7
      refine ⟨m', hm, i + 1, σ7, H7, I7.unpinned, T.keep _ _ _ st5 fun b hb o e => (I7.pin (b, o) (List.mem_append_right _ (List.mem_append_right _ (mem_pinsAt hb e)))).1, fun b hb => ?_, w7⟩
      obtain ⟨o, e, d⟩ := T.obj _ _ st5 b hb
      exact (I7.pin (b, o) (List.mem_append_right _ (List.mem_append_right _ (mem_pinsAt hb e)))).2.1
    cases f with
    | next => obtain ⟨σ7, H7, I7, n7⟩ := q7; exact again I7 n7
    | cont => obtain ⟨σ7, H7, I7, n7⟩ := q7; exact again I7 n7
    | brk => obtain ⟨σ7, H7, I7, q7⟩ := q7; exact ⟨σ7, H7, I7.unpinned, q7⟩
    | ret v => obtain ⟨x7, σ7, H7, I7, r7, q7⟩ := q7; exact ⟨x7, σ7, H7, I7.unpinned, r7, q7⟩
end
theorem for_list {K : PySem.W.Frag} {a : Addr} {xs : List V} {g : TG} {tb : TS} {D : Ends} {σ : St} {H : Hp} (Pv : Nat → St → Hp → Prop) (h0 : Pv 0 σ H) (hl : ∀ i σ H, i ≤ xs.length → Pv i σ H → SqL K H a xs)
    (hs : ∀ i x σ H, xs[i]? = some x → Pv i σ H → g x σ H fun σ2 H2 => tb { D with nx := Pv (i + 1), ct := Pv (i + 1), bk := D.nx } σ2 H2) (hd : ∀ σ H, Pv xs.length σ H → D.nx σ H) :
    ∃ W : Nat → Nat → St → Hp → Prop, (∃ m, W 0 m σ H) ∧ ∀ i m σ H, W i m σ H →
      ((Itl K a).stop i H ∧ D.nx σ H) ∨ ((Itl K a).go i H ∧ ∃ N : St → Hp → Prop, (∀ σ' H', N σ' H' → ∃ m', m' < m ∧ W (i + 1) m' σ' H') ∧ ∀ x H', (Itl K a).yld i H x H' → g x σ H' fun σ2 H2 => tb { D with nx := N, ct := N, bk := D.nx } σ2 H2) := by
  refine ⟨fun i m σ H => m = xs.length - i ∧ i ≤ xs.length ∧ Pv i σ H, ⟨xs.length, by simp, Nat.zero_le _, h0⟩, ?_⟩
  rintro i m σ H ⟨rfl, hi, p⟩
  have q := hl i σ H hi p
  by_cases hlt : i < xs.length
  · refine .inr ⟨⟨xs, xs[i], q, by simp [hlt]⟩, Pv (i + 1), fun σ' H' p' => ⟨xs.length - (i + 1), by omega, rfl, hlt, p'⟩, fun x H' y => ?_⟩
    obtain ⟨e, y⟩ := y
    subst e
    exact hs i x σ _ (y xs q) p
  · have e : i = xs.length := by omega
    subst e
    exact .inl ⟨⟨xs, q, Nat.le_refl _⟩, hd σ H p⟩
theorem for_range {lo : Int} {n : Nat} {g : TG} {tb : TS} {D : Ends} {σ : St} {H : Hp} (Pv : Nat → St → Hp → Prop) (h0 : Pv 0 σ H)
    (hs : ∀ i σ H, i < n → Pv i σ H → g (.int (lo + i)) σ H fun σ2 H2 => tb { D with nx := Pv (i + 1), ct := Pv (i + 1), bk := D.nx } σ2 H2) (hd : ∀ σ H, Pv n σ H → D.nx σ H) :
    ∃ W : Nat → Nat → St → Hp → Prop, (∃ m, W 0 m σ H) ∧ ∀ i m σ H, W i m σ H →
      ((Itr lo n).stop i H ∧ D.nx σ H) ∨ ((Itr lo n).go i H ∧ ∃ N : St → Hp → Prop, (∀ σ' H', N σ' H' → ∃ m', m' < m ∧ W (i + 1) m' σ' H') ∧ ∀ x H', (Itr lo n).yld i H x H' → g x σ H' fun σ2 H2 => tb { D with nx := N, ct := N, bk := D.nx } σ2 H2) := by
  refine ⟨fun i m σ H => m = n - i ∧ i ≤ n ∧ Pv i σ H, ⟨n, by simp, Nat.zero_le _, h0⟩, ?_⟩
  rintro i m σ H ⟨rfl, hi, p⟩
  by_cases hlt : i < n
  · refine .inr ⟨hlt, Pv (i + 1), fun σ' H' p' => ⟨n - (i + 1), by omega, rfl, hlt, p'⟩, fun x H' y => ?_⟩
    obtain ⟨e, y⟩ := y
    subst e y
    exact hs i σ _ hlt p
  · have e : i = n := by omega
    subst e
    exact .inl ⟨Nat.le_refl _, hd σ H p⟩
end L2
namespace L2
open PySem PySem.Spec PyProof.Rows
abbrev R2 := V → V → Hp → VK → Prop
def OpR (X : Cx) (f : Value → Value → Sem Value) (r : R2) : Prop :=
  ∀ (pins : List (Addr × Obj)) (s : Shared) (σ : St) (H : Hp) (x y : V) (v u : Value) (Q : VK), Inv X pins σ H s → RelV x v → RelV y u → r x y H Q →
    wpAny (model X.prog X.w) X.A (f v u) (EP X pins σ Q) X.xe s
def UnR (X : Cx) (f : Value → Sem Value) (r : V → Hp → VK → Prop) : Prop :=
  ∀ (pins : List (Addr × Obj)) (s : Shared) (σ : St) (H : Hp) (x : V) (v : Value) (Q : VK), Inv X pins σ H s → RelV x v → r x H Q →
    wpAny (model X.prog X.w) X.A (f v) (EP X pins σ Q) X.xe s
def CallR (X : Cx) (f : Value) (r : List V → Hp → VK → Prop) : Prop :=
  ∀ (pins : List (Addr × Obj)) (s : Shared) (σ : St) (H : Hp) (xs : List V) (us : List Value) (Q : VK), Inv X pins σ H s → Vals xs us → r xs H Q →
    wpAny (model X.prog X.w) X.A (call f us) (EP X pins σ Q) X.xe s
def tOp (r : R2) (ta tb : TE) : TE := fun σ H Q => ta σ H fun x H1 => tb σ H1 fun y H2 => r x y H2 Q
def tUn (r : V → Hp → VK → Prop) (ta : TE) : TE := fun σ H Q => ta σ H fun x H1 => r x H1 Q
def rI (C : Int → Int → Prop) (g : Int → Int → V) : R2 := fun x y H Q => ∃ i j, x = .int i ∧ y = .int j ∧ C i j ∧ Q (g i j) H
def rI0 (g : Int → Int → V) : R2 := fun x y H Q => ∃ i j, x = .int i ∧ y = .int j ∧ Q (g i j) H
def rU (g : Int → V) : V → Hp → VK → Prop := fun x H Q => ∃ i, x = .int i ∧ Q (g i) H
section
variable {X : Cx} {a b c : Expr} {ta tb tc : TE} {pos : Pos}
theorem binT (ha : PE X a ta) (hb : PE X b tb) {pins : List (Addr × Obj)} {s : Shared} {σ : St} {H : Hp} {R : V → V → Hp → Prop} (I : Inv X pins σ H s)
    (h : ta σ H fun x H1 => tb σ H1 fun y H2 => R x y H2) {Q : Value → Shared → Prop} {f : Value → Value → Sem Value}
    (hf : ∀ v u s2 x y H2, Inv X pins σ H2 s2 → RelV x v → RelV y u → R x y H2 → wpAny (model X.prog X.w) X.A (f v u) Q X.xe s2) :
    wpAny (model X.prog X.w) X.A (eval a X.env) (fun v s₁ => wpAny (model X.prog X.w) X.A (eval b X.env) (fun u s₂ => wpAny (model X.prog X.w) X.A (f v u) Q X.xe s₂) X.xe s₁) X.xe s := by
  refine thn (ha pins s σ H _ I h) fun v s1 ⟨x, H1, I1, r1, q1⟩ => ?_
  refine thn (hb pins s1 σ H1 _ I1 q1) fun u s2 ⟨y, H2, I2, r2, q2⟩ => ?_
  exact hf v u s2 x y H2 I2 r1 r2 q2
theorem pe_op {op : Operator} {r : R2} (ho : OpR X (binaryOp op) r) (ha : PE X a ta) (hb : PE X b tb) : PE X (.BinOp a op b pos) (tOp r ta tb) := by
  intro pins s σ H Q I h
  exact wpAny_BinOp (binT ha hb I h fun v u s2 x y H2 I2 rx ry q => ho pins s2 σ H2 x y v u Q I2 rx ry q)
theorem pe_un {op : UnaryOp} {r : V → Hp → VK → Prop} (ho : UnR X (unaryOp op) r) (ha : PE X a ta) : PE X (.UnaryOp op a pos) (tUn r ta) := by
  intro pins s σ H Q I h
  exact UnaryOp_ (thn (ha pins s σ H _ I h) fun v s1 ⟨x, H1, I1, r1, q1⟩ => ho pins s1 σ H1 x v Q I1 r1 q1)
theorem opI {f : Value → Value → Sem Value} {C : Int → Int → Prop} {g : Int → Int → Int}
    (rule : ∀ (i j : Int) (t u : Tok) (s : Shared) (Q : Value → Shared → Prop) (E : Value → Shared → Prop), C i j → Q (.int (g i j) s.toks) { s with toks := s.toks + 1 } → wpAny (model X.prog X.w) X.A (f (.int i t) (.int j u)) Q E s) :
    OpR X f (rI C fun i j => .int (g i j)) := by
  intro pins s σ H x y v u Q I rx ry h
  obtain ⟨i, j, rfl, rfl, hc, q⟩ := h
  obtain ⟨t, rfl⟩ := rx
  obtain ⟨t', rfl⟩ := ry
  exact rule i j t t' s _ _ hc ⟨.int (g i j), H, I.tok _, ⟨_, rfl⟩, q⟩
theorem opI0 {f : Value → Value → Sem Value} {g : Int → Int → Int}
    (rule : ∀ (i j : Int) (t u : Tok) (s : Shared) (Q : Value → Shared → Prop) (E : Value → Shared → Prop), Q (.int (g i j) s.toks) { s with toks := s.toks + 1 } → wpAny (model X.prog X.w) X.A (f (.int i t) (.int j u)) Q E s) :
    OpR X f (rI0 fun i j => .int (g i j)) := by
  intro pins s σ H x y v u Q I rx ry h
  obtain ⟨i, j, rfl, rfl, q⟩ := h
  obtain ⟨t, rfl⟩ := rx
  obtain ⟨t', rfl⟩ := ry
  exact rule i j t t' s _ _ ⟨.int (g i j), H, I.tok _, ⟨_, rfl⟩, q⟩
theorem opB0 {f : Value → Value → Sem Value} {g : Int → Int → Bool}
    (rule : ∀ (i j : Int) (t u : Tok) (s : Shared) (Q : Value → Shared → Prop) (E : Value → Shared → Prop), Q (.bool (g i j)) s → wpAny (model X.prog X.w) X.A (f (.int i t) (.int j u)) Q E s) :
    OpR X f (rI0 fun i j => .bl (g i j)) := by
  intro pins s σ H x y v u Q I rx ry h
  obtain ⟨i, j, rfl, rfl, q⟩ := h
  obtain ⟨t, rfl⟩ := rx
  obtain ⟨t', rfl⟩ := ry
  exact rule i j t t' s _ _ ⟨.bl (g i j), H, I, rfl, q⟩
def CDiv (i j : Int) : Prop := 0 < j ∧ j < 1073741824
def CPow (i j : Int) : Prop := 0 ≤ j ∧ j ≤ 1000000 ∧ i.natAbs < 2 ^ 64
def CMul (i j : Int) : Prop := (-(2 ^ 64) < i ∧ i < 2 ^ 64) ∨ (-(2 ^ 64) < j ∧ j < 2 ^ 64)
theorem CMul.ok {i j : Int} (h : CMul i j) : IntMulOk i j := by
  rcases h with ⟨h1, h2⟩ | ⟨h1, h2⟩
  · exact .of_left (intBits_le_64 h1 h2)
  · exact .of_right (intBits_le_64 h1 h2)
theorem two_pow_nn (k : Nat) : (0 : Int) ≤ 2 ^ k := by
  rw [two_pow_cast]
  exact Int.natCast_nonneg _
theorem op_add : OpR X (binaryOp .Add) (rI0 fun i j => .int (i + j)) := opI0 fun _ _ _ _ _ _ _ q => add_int q
theorem op_sub : OpR X (binaryOp .Sub) (rI0 fun i j => .int (i - j)) := opI0 fun _ _ _ _ _ _ _ q => sub_int q
theorem op_mul : OpR X (binaryOp .Mult) (rI CMul fun i j => .int (i * j)) := opI fun _ _ _ _ _ _ _ hc q => mul_int q hc.ok
theorem op_fdiv : OpR X (binaryOp .FloorDiv) (rI CDiv fun i j => .int (i / j)) := opI fun i j _ _ _ _ _ hc q => by
  have h1 : (0 : Int) < j := hc.1
  have h2 : j < 1073741824 := hc.2
  exact floordiv_int (by omega) (by rw [Int.fdiv_eq_ediv_of_nonneg i (by omega)]; exact q) (.inl (PyProof.noPylong_small (by omega)))
theorem op_mod : OpR X (binaryOp .Mod) (rI (fun _ j => 0 < j) fun i j => .int (i % j)) := opI fun i j _ _ _ _ _ hc q => by
  have h1 : (0 : Int) < j := hc
  exact mod_int' (by omega) (by rw [Int.fmod_eq_emod_of_nonneg i (by omega)]; exact q)
theorem op_shl : OpR X (binaryOp .LShift) (rI CPow fun i j => .int (i * 2 ^ j.toNat)) := opI fun _ _ _ _ _ _ _ hc q => lshift_int_small hc.1 hc.2.1 hc.2.2 q
theorem op_shr : OpR X (binaryOp .RShift) (rI (fun _ j => 0 ≤ j) fun i j => .int (i / 2 ^ j.toNat)) := opI fun i j _ _ _ _ _ hc q =>
  rshift_int hc (by rw [Int.fdiv_eq_ediv_of_nonneg i (two_pow_nn _)]; exact q)
theorem op_and : OpR X (binaryOp .BitAnd) (rI0 fun i j => .int (Builtin.bitAnd i j)) := opI0 fun _ _ _ _ _ _ _ q => and_int q
theorem op_or : OpR X (binaryOp .BitOr) (rI0 fun i j => .int (Builtin.bitOr i j)) := opI0 fun _ _ _ _ _ _ _ q => or_int q
theorem iop_add : OpR X (inplaceOp .Add) (rI0 fun i j => .int (i + j)) := opI0 fun _ _ _ _ _ _ _ q => iadd_int q
theorem iop_sub : OpR X (inplaceOp .Sub) (rI0 fun i j => .int (i - j)) := opI0 fun _ _ _ _ _ _ _ q => isub_int q
theorem iop_shl : OpR X (inplaceOp .LShift) (rI CPow fun i j => .int (i * 2 ^ j.toNat)) := opI fun _ _ _ _ _ _ _ hc q => ilshift_int_small hc.1 hc.2.1 hc.2.2 q
theorem iop_or : OpR X (inplaceOp .BitOr) (rI0 fun i j => .int (Builtin.bitOr i j)) := opI0 fun _ _ _ _ _ _ _ q => ior_int q
theorem iop_xor : OpR X (inplaceOp .BitXor) (rI0 fun i j => .int (Builtin.bitXor i j)) := opI0 fun _ _ _ _ _ _ _ q => ixor_int q
theorem unI {f : Value → Sem Value} {g : Int → Int}
    (rule : ∀ (i : Int) (t : Tok) (s : Shared) (Q : Value → Shared → Prop) (E : Value → Shared → Prop), Q (.int (g i) s.toks) { s with toks := s.toks + 1 } → wpAny (model X.prog X.w) X.A (f (.int i t)) Q E s) :
    UnR X f (rU fun i => .int (g i)) := by
  intro pins s σ H x v Q I rx h
  obtain ⟨i, rfl, q⟩ := h
  obtain ⟨t, rfl⟩ := rx
  exact rule i t s _ _ ⟨.int (g i), H, I.tok _, ⟨_, rfl⟩, q⟩
theorem un_neg : UnR X (unaryOp .USub) (rU fun i => .int (-i)) := unI fun _ _ _ _ _ q => neg_int q
end
def scal : V → V → Bool
  | .non, .non => true | .non, .int _ => true | .int _, .non => true | .non, .bl _ => true | .bl _, .non => true | .non, .str _ => true | .str _, .non => true
  | .int _, .int _ => true | .bl _, .bl _ => true | .str _, .str _ => true | .byt _, .byt _ => true
  | .int _, .str _ => true | .str _, .int _ => true | .bl _, .str _ => true | .str _, .bl _ => true
  | _, _ => false
def rEq : R2 := fun x y H Q => scal x y = true ∧ Q (.bl (decide (x = y))) H
def rNe : R2 := fun x y H Q => scal x y = true ∧ Q (.bl (!decide (x = y))) H
theorem dec_int {i j : Int} : decide (V.int i = V.int j) = (i == j) := by
  rw [Bool.eq_iff_iff]
  simp
theorem dec_bl {i j : Bool} : decide (V.bl i = V.bl j) = (i == j) := by
  rw [Bool.eq_iff_iff]
  simp
theorem dec_str {i j : Str} : decide (V.str i = V.str j) = (i == j) := by
  rw [Bool.eq_iff_iff]
  simp
theorem dec_byt {i j : Array UInt8} : decide (V.byt i = V.byt j) = (i.toList == j.toList) := by
  rw [Bool.eq_iff_iff]
  cases i
  cases j
  simp
section
variable {X : Cx} {a b c : Expr} {ta tb tc : TE} {pos : Pos}
theorem fin_bl {pins : List (Addr × Obj)} {σ : St} {H : Hp} {s : Shared} {Q : VK} {k k' : Bool} (I : Inv X pins σ H s) (q : Q (.bl k) H) (e : k = k') : EP X pins σ Q (.bool k') s := by
  subst e
  exact ⟨.bl k, H, I, rfl, q⟩
theorem op_eq : OpR X (compareOp .Eq) rEq := by
  intro pins s σ H x y v u Q I rx ry h
  obtain ⟨hs, q⟩ := h
  cases x with
  | non =>
    cases rx
    cases y with
    | non => cases ry; exact PySem.EqNone.eq_none_none (fin_bl I q (by simp))
    | bl j => cases ry; exact PySem.EqNone.eq_none_bool (fin_bl I q (by simp))
    | int j => obtain ⟨t', rfl⟩ := ry; exact PySem.EqNone.eq_none_int (fin_bl I q (by simp))
    | str j => obtain ⟨t', rfl⟩ := ry; exact PySem.EqNone.eq_none_str (fin_bl I q (by simp))
    | _ => exact absurd (show false = true from hs) Bool.false_ne_true
  | bl i =>
    cases rx
    cases y with
    | non => cases ry; exact PySem.EqNone.eq_bool_none (fin_bl I q (by simp))
    | bl j => cases ry; exact eq_bool (fin_bl I q dec_bl)
    | str j => obtain ⟨t', rfl⟩ := ry; exact PySem.EqMixed.eq_bool_str (fin_bl I q (by simp))
    | _ => exact absurd (show false = true from hs) Bool.false_ne_true
  | int i =>
    obtain ⟨t, rfl⟩ := rx
    cases y with
    | non => cases ry; exact PySem.EqNone.eq_int_none (fin_bl I q (by simp))
    | int j => obtain ⟨t', rfl⟩ := ry; exact eq_int (fin_bl I q dec_int)
    | str j => obtain ⟨t', rfl⟩ := ry; exact PySem.EqMixed.eq_int_str (fin_bl I q (by simp))
    | _ => exact absurd (show false = true from hs) Bool.false_ne_true
  | str i =>
    obtain ⟨t, rfl⟩ := rx
    cases y with
    | non => cases ry; exact PySem.EqNone.eq_str_none (fin_bl I q (by simp))
    | bl j => cases ry; exact PySem.EqMixed.eq_str_bool (fin_bl I q (by simp))
    | int j => obtain ⟨t', rfl⟩ := ry; exact PySem.EqMixed.eq_str_int (fin_bl I q (by simp))
    | str j => obtain ⟨t', rfl⟩ := ry; exact eq_str (fin_bl I q dec_str)
    | _ => exact absurd (show false = true from hs) Bool.false_ne_true
  | byt i =>
    obtain ⟨t, rfl⟩ := rx
    cases y with
    | byt j => obtain ⟨t', rfl⟩ := ry; exact PySem.W.eq_bytes (fin_bl I q dec_byt)
    | _ => exact absurd (show false = true from hs) Bool.false_ne_true
  | _ => cases y <;> exact absurd (show false = true from hs) Bool.false_ne_true
theorem op_ne : OpR X (compareOp .NotEq) rNe := by
  intro pins s σ H x y v u Q I rx ry h
  obtain ⟨hs, q⟩ := h
  cases x with
  | non =>
    cases rx
    cases y with
    | non => cases ry; exact PySem.EqNone.ne_none_none (fin_bl I q (by simp))
    | bl j => cases ry; exact PySem.EqNone.ne_none_bool (fin_bl I q (by simp))
    | int j => obtain ⟨t', rfl⟩ := ry; exact PySem.EqNone.ne_none_int (fin_bl I q (by simp))
    | str j => obtain ⟨t', rfl⟩ := ry; exact PySem.EqNone.ne_none_str (fin_bl I q (by simp))
    | _ => exact absurd (show false = true from hs) Bool.false_ne_true
  | bl i =>
    cases rx
    cases y with
    | non => cases ry; exact PySem.EqNone.ne_bool_none (fin_bl I q (by simp))
    | bl j => cases ry; exact ne_bool (fin_bl I q (congrArg not dec_bl))
    | str j => obtain ⟨t', rfl⟩ := ry; exact PySem.EqMixed.ne_bool_str (fin_bl I q (by simp))
    | _ => exact absurd (show false = true from hs) Bool.false_ne_true
  | int i =>
    obtain ⟨t, rfl⟩ := rx
    cases y with
    | non => cases ry; exact PySem.EqNone.ne_int_none (fin_bl I q (by simp))
    | int j => obtain ⟨t', rfl⟩ := ry; exact ne_int (fin_bl I q (congrArg not dec_int))
    | str j => obtain ⟨t', rfl⟩ := ry; exact PySem.EqMixed.ne_int_str (fin_bl I q (by simp))
    | _ => exact absurd (show false = true from hs) Bool.false_ne_true
  | str i =>
    obtain ⟨t, rfl⟩ := rx
    cases y with
    | non => cases ry; exact PySem.EqNone.ne_str_none (fin_bl I q (by simp))
    | bl j => cases ry; exact PySem.EqMixed.ne_str_bool (fin_bl I q (by simp))
    | int j => obtain ⟨t', rfl⟩ := ry; exact PySem.EqMixed.ne_str_int (fin_bl I q (by simp))
    | str j => obtain ⟨t', rfl⟩ := ry; exact ne_str (fin_bl I q (congrArg not dec_str))
    | _ => exact absurd (show false = true from hs) Bool.false_ne_true
  | byt i =>
    obtain ⟨t, rfl⟩ := rx
    cases y with
    | byt j => obtain ⟨t', rfl⟩ := ry; exact PySem.W.ne_bytes (fin_bl I q (congrArg not dec_byt))
    | _ => exact absurd (show false = true from hs) Bool.false_ne_true
  | _ => cases y <;> exact absurd (show false = true from hs) Bool.false_ne_true
theorem op_lt : OpR X (compareOp .Lt) (rI0 fun i j => .bl (decide (i < j))) := opB0 fun _ _ _ _ _ _ _ q => lt_int q
theorem op_le : OpR X (compareOp .LtE) (rI0 fun i j => .bl (decide (i ≤ j))) := opB0 fun _ _ _ _ _ _ _ q => le_int q
theorem op_gt : OpR X (compareOp .Gt) (rI0 fun i j => .bl (decide (j < i))) := opB0 fun _ _ _ _ _ _ _ q => gt_int q
theorem op_ge : OpR X (compareOp .GtE) (rI0 fun i j => .bl (decide (j ≤ i))) := opB0 fun _ _ _ _ _ _ _ q => ge_int q
theorem nomark (b : Expr) {op : CmpOp} (h : op ≠ .In := by decide) (h2 : op ≠ .NotIn := by decide) : behindInMarks op b = false := by
  have e1 : (op == CmpOp.In) = false := by cases op <;> first | rfl | exact absurd rfl h
  have e2 : (op == CmpOp.NotIn) = false := by cases op <;> first | rfl | exact absurd rfl h2
  cases b <;> simp [behindInMarks, e1, e2]
theorem pe_cmpR {op : CmpOp} {r : R2} (ho : OpR X (compareOp op) r) (ha : PE X a ta) (hb : PE X b tb) (hm : behindInMarks op b = false) : PE X (.Compare a [op] [b] pos) (tOp r ta tb) := by
  intro pins s σ H Q I h
  exact wpAny_Compare1 (binT ha hb I h fun v u s2 x y H2 I2 rx ry q => ho pins s2 σ H2 x y v u Q I2 rx ry q) hm
def tTest (t : TE) : TT := fun σ H Q => t σ H fun x H' => ∃ k, x = .bl k ∧ Q k H'
theorem pt_cmpR {op : CmpOp} {r : R2} (ho : OpR X (compareOp op) r) (ha : PE X a ta) (hb : PE X b tb) (hm : behindInMarks op b = false) : PT X (.Compare a [op] [b] pos) (tTest (tOp r ta tb)) := by
  intro pins s σ H Q I h
  refine wpAny_isTrue_Compare1 (thn (ha pins s σ H _ I h) fun v s1 ⟨x, H1, I1, r1, q1⟩ => thn (hb pins s1 σ H1 _ I1 q1) fun u s2 ⟨y, H2, I2, r2, q2⟩ =>
    thn (ho pins s2 σ H2 x y v u _ I2 r1 r2 q2) fun c s3 ⟨z, H3, I3, r3, k, e, q3⟩ => ?_) hm
  subst e
  cases r3
  exact wpAny_truthy_bool ⟨H3, I3, q3⟩
def tChain (r r' : R2) (ta tb tc : TE) : TE := fun σ H Q => ta σ H fun x H1 => tb σ H1 fun y H2 => r x y H2 fun z H3 => ∃ k, z = .bl k ∧
  (if k = true then tc σ H3 fun w' H4 => r' y w' H4 Q else Q (.bl false) H3)
theorem pe_chain {op op' : CmpOp} {r r' : R2} (ho : OpR X (compareOp op) r) (ho' : OpR X (compareOp op') r') (ha : PE X a ta) (hb : PE X b tb) (hc : PE X c tc)
    (hm : lastMarks [op, op'] [b, c] = false := by with_unfolding_all rfl) : PE X (.Compare a [op, op'] [b, c] pos) (tChain r r' ta tb tc) := by
  intro pins s σ H Q I h
  refine Compare_chain (thn (ha pins s σ H _ I h) fun v s1 ⟨x, H1, I1, r1, q1⟩ => chain_link (thn (hb pins s1 σ H1 _ I1 q1) fun u s2 ⟨y, H2, I2, r2, q2⟩ =>
    thn (ho pins s2 σ H2 x y v u _ I2 r1 r2 q2) fun d s3 ⟨z, H3, I3, r3, k, e, q3⟩ => ?_)) hm
  subst e
  cases r3
  refine wpAny_truthy_bool ?_
  cases k with
  | false => exact ite_ff ⟨.bl false, H3, I3, rfl, q3⟩
  | true => exact ite_tt (chain_last (thn (hc pins s3 σ H3 _ I3 q3) fun w' s4 ⟨z', H4, I4, r4, q4⟩ => ho' pins s4 σ H4 y z' u w' Q I4 r2 r4 q4))
theorem pt_chain {op op' : CmpOp} {r r' : R2} (ho : OpR X (compareOp op) r) (ho' : OpR X (compareOp op') r') (ha : PE X a ta) (hb : PE X b tb) (hc : PE X c tc)
    (hm : lastMarks [op, op'] [b, c] = false := by with_unfolding_all rfl) : PT X (.Compare a [op, op'] [b, c] pos) (tTest (tChain r r' ta tb tc)) := by
  intro pins s σ H Q I h
  refine isTrue_chain (thn (ha pins s σ H _ I h) fun v s1 ⟨x, H1, I1, r1, q1⟩ => test_link (thn (hb pins s1 σ H1 _ I1 q1) fun u s2 ⟨y, H2, I2, r2, q2⟩ =>
    thn (ho pins s2 σ H2 x y v u _ I2 r1 r2 q2) fun d s3 ⟨z, H3, I3, r3, k, e, q3⟩ => ?_)) hm
  subst e
  cases r3
  refine wpAny_truthy_bool ?_
  cases k with
  | false =>
    obtain ⟨k', e', q'⟩ := q3
    cases e'
    exact ite_ff ⟨H3, I3, q'⟩
  | true =>
    refine ite_tt (test_last (thn (hc pins s3 σ H3 _ I3 q3) fun w' s4 ⟨z', H4, I4, r4, q4⟩ => thn (ho' pins s4 σ H4 y z' u w' _ I4 r2 r4 q4) fun d' s5 ⟨z2, H5, I5, r5, k2, e2, q5⟩ => ?_))
    subst e2
    cases r5
    exact wpAny_truthy_bool ⟨H5, I5, q5⟩
theorem line63 : (sizeLine : Nat) < 2 ^ 63 := by rw [sizeLine_eq]; decide
theorem vals1 {x : V} {us : List Value} (r : Vals [x] us) : ∃ u, us = [u] ∧ RelV x u := by
  cases r with
  | cons r1 r2 => cases r2; exact ⟨_, rfl, r1⟩
theorem vals2 {x y : V} {us : List Value} (r : Vals [x, y] us) : ∃ u w', us = [u, w'] ∧ RelV x u ∧ RelV y w' := by
  cases r with
  | cons r1 r2 =>
    cases r2 with
    | cons r3 r4 => cases r4; exact ⟨_, _, rfl, r1, r3⟩
theorem call_abs : CallR X (.builtin "abs") (fun xs H Q => ∃ i, xs = [.int i] ∧ Q (.int (if i < 0 then -i else i)) H) := by
  intro pins s σ H xs us Q I r h
  obtain ⟨i, rfl, q⟩ := h
  obtain ⟨u, rfl, t, rfl⟩ := vals1 r
  exact call_abs_int fun u tk => ⟨.int (if i < 0 then -i else i), H, I.tok _, ⟨_, rfl⟩, q⟩
theorem call_max2 (hc : X.calm = true) : CallR X (.builtin "max") (fun xs H Q => ∃ i j, xs = [.int i, .int j] ∧ Q (.int (if j > i then j else i)) H) := by
  intro pins s σ H xs us Q I r h
  obtain ⟨i, j, rfl, q⟩ := h
  obtain ⟨u, w', rfl, ⟨t, rfl⟩, ⟨t', rfl⟩⟩ := vals2 r
  refine max_two_ints (I.ok.hd hc) fun h' tk k => ⟨_, H, I.kept k, ?_, q⟩
  by_cases hj : j > i
  · rw [if_pos hj, if_pos hj]; exact ⟨_, rfl⟩
  · rw [if_neg hj, if_neg hj]; exact ⟨_, rfl⟩
theorem call_min2 (hc : X.calm = true) : CallR X (.builtin "min") (fun xs H Q => ∃ i j, xs = [.int i, .int j] ∧ Q (.int (if j < i then j else i)) H) := by
  intro pins s σ H xs us Q I r h
  obtain ⟨i, j, rfl, q⟩ := h
  obtain ⟨u, w', rfl, ⟨t, rfl⟩, ⟨t', rfl⟩⟩ := vals2 r
  refine min_two_ints (I.ok.hd hc) fun h' tk k => ⟨_, H, I.kept k, ?_, q⟩
  by_cases hj : j < i
  · rw [if_pos hj, if_pos hj]; exact ⟨_, rfl⟩
  · rw [if_neg hj, if_neg hj]; exact ⟨_, rfl⟩
end
end L2
namespace L2
open PySem PySem.Spec PyProof.Rows
structure ObjM (h : Heap) (x dx C : Addr) (mA : Str → Option Value) : Prop where
  obj : h.get? x = some (PySem.W.instObj C dx)
  ns : h.Ns1 dx mA
  ne : dx ≠ x
theorem lookIn_ns {h : Heap} {dx : Addr} {mA : Str → Option Value} (n : h.Ns1 dx mA) : ∃ od, h.get? dx = some od ∧ ∀ name, PySem.W.lookIn name od = some (mA name) := by
  obtain ⟨o, es, ep, ho, hd, hk, _, hm⟩ := n
  refine ⟨o, ho, fun name => ?_⟩
  have e := hm name
  unfold nsFind findBy at e
  rw [← Array.find?_toList] at e
  unfold PySem.W.lookIn
  rw [hd]
  dsimp only
  split
  · rename_i y q
    rw [q] at e
    exact congrArg some e
  · rename_i q
    rw [q] at e
    have a : es.toList.any (·.refKey) = false := by
      rw [List.any_eq_false]
      intro y hy
      obtain ⟨z, t, hkey⟩ := hk y (Array.mem_toList_iff.mp hy)
      simp [DictEntry.refKey, hkey]
    have a' : ¬ es.toList.any (·.refKey) = true := by rw [a]; exact Bool.false_ne_true
    rw [if_neg a']
    exact congrArg some e
theorem ObjM.look {h : Heap} {x dx C : Addr} {mA : Str → Option Value} (I : ObjM h x dx C mA) : ∃ od, PySem.W.InstAt h x (PySem.W.instObj C dx) C (some od) ∧ ∀ name, PySem.W.lookIn name od = some (mA name) :=
  let ⟨od, ho, hl⟩ := lookIn_ns I.ns
  ⟨od, ⟨I.obj, rfl, rfl, ho⟩, hl⟩
section
variable {prog : Program} {w : World} {A : Around} {E : Value → Shared → Prop} {s : Shared} {K : PySem.W.Frag} {x dx C f : Addr} {mA : Str → Option Value} {name : Str} {v : Value}
theorem get_map {expr : Bool} {Q : Value → Shared → Prop} (X : K.In s.heap) (I : ObjM s.heap x dx C mA) (hg : PySem.W.plainGet K C name = true) (hh : PySem.W.hasDictIn K C = true)
    (ha : PySem.W.findIn K (.ref C) name = some none) (hv : mA name = some v) (hv' : PySem.W.handedIn v = true) (h : Q v { s with toks := s.toks + 1 }) :
    wpAny (model prog w) A (getAttr (.ref x) name expr) Q E s := by
  obtain ⟨od, J, hl⟩ := I.look
  exact PySem.W.get_value X J (PySem.W.plainGet_of hg).1 (PySem.W.findObj_own hh ha rfl (by rw [hl, hv])) hv' h
theorem get_meth {pl : Sem Bool} {Q : Value × List Value → Shared → Prop} (X : K.In s.heap) (I : ObjM s.heap x dx C mA) (hg : PySem.W.plainGet K C name = true)
    (hf : PySem.W.findIn K (.ref C) name = some (some (.ref f))) (ht : PySem.W.isFn K (.ref f) = true) (hv : mA name = none) (h : Q (.ref f, [.ref x]) s) :
    wpAny (model prog w) A (getMethod (.ref x) name pl) Q E s := by
  obtain ⟨od, J, hl⟩ := I.look
  exact PySem.W.method_fn X J (PySem.W.plainGet_of hg).1 (PySem.W.plainGet_of hg).2 hf (beq_iff_eq.mp ht) (by show (PySem.W.lookIn name od).map (·.isSome) = some false; rw [hl, hv]; rfl) h
theorem set_map {ns : List Str} {Q : Unit → Shared → Prop} (X : K.In s.heap) (I : ObjM s.heap x dx C mA)
    (hs : PySem.W.findIn K (.ref C) "__setattr__" = some (some (.builtin "object.__setattr__"))) (hp : PySem.W.plainOver K C = true) (ht : PySem.W.takerIn K C name = some none) (hh : PySem.W.hasDictIn K C = true)
    (hw : PySem.Within mA ns) (hsz : ns.length ≤ sizeLine)
    (h : ∀ h', ObjM h' x dx C (fun y => if y = name then some v else mA y) → Heap.SameBut dx s.heap h' → Q () { s with heap := h', toks := s.toks + 2 }) :
    wpAny (model prog w) A (setAttr (.ref x) name v) Q E s := by
  obtain ⟨od, J, hl⟩ := I.look
  refine PySem.W.set_plain X J hs (PySem.W.osa_open (s := { s with toks := s.toks + 1 }) (r := none) X J hp ht fun b => ?_)
  obtain ⟨cd, hc, hd'⟩ := PySem.W.any_some hh
  have hx : s.heap.get? x = some ⟨.ref C, some dx, .plain, #[]⟩ := I.obj
  refine wpAny_bind (wpAny_pure (wpAny_bind (wpAny_bind (wpAny_loadPart hx (wpAny_bind (PySem.W.Looks.here (s := { s with toks := s.toks + 1 }) (PySem.W.looks_clsIn X hc) ?_))))))
  rw [hd']
  refine wpAny_pure (a := some dx) (wpAny_bind (wpAny_pure (wpAny_bind ?_)))
  refine wpAny_nsSet1 (s := { s with toks := s.toks + 1 }) I.ns fun h' hn2 hs2 => ?_
  obtain ⟨oD, esD, epD, hoD, hdD, hcD⟩ := hn2.count (PySem.Within.cons name v hw)
  refine wpAny_bind (wpAny_lookBehind hoD (by rw [hdD]; exact pastItsLine_dict (Nat.le_trans hcD (by rw [List.length_cons]; omega))) ?_)
  exact wpAny_pure (h _ ⟨(hs2.2 _ (Ne.symm I.ne)).trans I.obj, hn2, I.ne⟩ hs2)
theorem make_map {R : Result → Shared → Prop} {vs : List Value} {kw : List (Str × Value)} (X : K.In s.heap) (hm : PySem.W.makesIn K C = true)
    (hi : PySem.W.findIn K (.ref C) "__init__" = some (some (.ref f))) (hf : PySem.W.typeIn K (.ref f) = some (.type "function"))
    (h : codeAny (model prog w) (A.under (.builtin "type.__call__" ⟨.ref C :: vs, kw⟩)) (.call (.ref f) ⟨.ref (s.heap.objs.size + 1) :: vs, kw⟩) (PySem.W.InitBack (s.heap.objs.size + 1) R)
      { s with heap := (s.heap.push PySem.W.emptyDict).push (PySem.W.instObj C s.heap.objs.size) }) :
    codeAny (model prog w) A (.call (.ref C) ⟨vs, kw⟩) R s := by
  obtain ⟨hh, g, d, t, os⟩ := s
  exact PySem.W.make_core (PySem.W.makes_of X hm) (PySem.W.looks_findIn X hi) (fun self => PySem.W.bind_fn X self hf) (.inl rfl) h
end
def putF (f : Str) (v : V) : List (Str × V) → List (Str × V)
  | [] => [(f, v)]
  | (g, x) :: r => if g = f then (g, v) :: r else (g, x) :: putF f v r
theorem lookup_putF (f g : Str) (v : V) : ∀ fs : List (Str × V), (putF f v fs).lookup g = if g = f then some v else fs.lookup g
  | [] => by
    show List.lookup g [(f, v)] = _
    by_cases h : g = f
    · have hb : (g == f) = true := beq_iff_eq.mpr h
      simp only [List.lookup, hb, if_pos h]
    · have hb : (g == f) = false := beq_eq_false_iff_ne.mpr h
      simp only [List.lookup, hb, if_neg h]
  | (k, x) :: r => by
    have ih := lookup_putF f g v r
    rw [show putF f v ((k, x) :: r) = (if k = f then (k, v) :: r else (k, x) :: putF f v r) from rfl]
    by_cases hk : k = f
    · rw [if_pos hk]
      by_cases h : g = k
      · have hb : (g == k) = true := beq_iff_eq.mpr h
        simp only [List.lookup, hb, if_pos (h.trans hk)]
      · have hb : (g == k) = false := beq_eq_false_iff_ne.mpr h
        simp only [List.lookup, hb, if_neg (fun e : g = f => h (e.trans hk.symm))]
    · rw [if_neg hk]
      by_cases h : g = k
      · have hb : (g == k) = true := beq_iff_eq.mpr h
        simp only [List.lookup, hb, if_neg (fun e : g = f => hk (h.symm.trans e))]
      · have hb : (g == k) = false := beq_eq_false_iff_ne.mpr h
        simp only [List.lookup, hb]
        exact ih
theorem keys_putF (f : Str) (v : V) : ∀ fs : List (Str × V), f ∈ (putF f v fs).map (·.1) ∧ ∀ g, g ∈ fs.map (·.1) → g ∈ (putF f v fs).map (·.1)
  | [] => ⟨by simp [putF], fun g h => by simp at h⟩
  | (k, x) :: r => by
    obtain ⟨i1, i2⟩ := keys_putF f v r
    rw [show putF f v ((k, x) :: r) = (if k = f then (k, v) :: r else (k, x) :: putF f v r) from rfl]
    by_cases hk : k = f
    · rw [if_pos hk]
      subst hk
      exact ⟨by simp, fun g h => by simpa using h⟩
    · rw [if_neg hk]
      refine ⟨?_, fun g h => ?_⟩
      · rw [List.map_cons]
        exact List.mem_cons_of_mem _ i1
      · rw [List.map_cons] at h ⊢
        rcases List.mem_cons.mp h with e | e
        · exact List.mem_cons.mpr (.inl e)
        · exact List.mem_cons_of_mem _ (i2 g e)
theorem length_putF (f : Str) (v : V) : ∀ fs : List (Str × V), (putF f v fs).length ≤ fs.length + 1
  | [] => by simp [putF]
  | (k, x) :: r => by
    have ih := length_putF f v r
    rw [show putF f v ((k, x) :: r) = (if k = f then (k, v) :: r else (k, x) :: putF f v r) from rfl]
    by_cases hk : k = f
    · rw [if_pos hk, List.length_cons, List.length_cons]; omega
    · rw [if_neg hk, List.length_cons, List.length_cons]; omega
theorem RelO.some_of {v : V} {o : Option Value} (r : RelO (some v) o) : ∃ u, o = some u ∧ RelV v u := by
  cases o with
  | none => exact (show False from r).elim
  | some u => exact ⟨u, rfl, r⟩
theorem RelO.none_of {o : Option Value} (r : RelO none o) : o = none := by
  cases o with
  | none => rfl
  | some u => exact (show False from r).elim
theorem handed_of {v : V} {u : Value} (r : RelV v u) : PySem.W.handedIn u = true := by
  cases v with
  | non => cases (show u = Value.none from r); rfl
  | bl b => cases (show u = Value.bool b from r); rfl
  | int i => obtain ⟨t, e⟩ := (show ∃ t, u = Value.int i t from r); cases e; rfl
  | str x => obtain ⟨t, e⟩ := (show ∃ t, u = Value.str x t from r); cases e; rfl
  | byt b => obtain ⟨t, e⟩ := (show ∃ t, u = Value.bytes b t from r); cases e; rfl
  | flt b => obtain ⟨t, e⟩ := (show ∃ t, u = Value.float b t from r); cases e; rfl
  | ref a => cases (show u = Value.ref a from r); rfl
  | ty n => cases (show u = Value.type n from r); rfl
section
variable {P : Program} {w : World} {H H' : Hp} {h h' : Heap} {a C dx : Addr} {fs fs' : List (Str × V)}
theorem ins_get (hok : HOk P w H h) (e : H a = some (.ins C dx fs)) : ∃ mA, ObjM h a dx C mA ∧ (∀ f, RelO (fs.lookup f) (mA f)) ∧ PySem.Within mA (fs.map (·.1)) ∧ fs.length ≤ 1000 ∧ H dx = some (.own a) := by
  obtain ⟨d, z, ne, ob, mA, n, r, q⟩ := (show ObjOk P w H h a (.ins C dx fs) from hok a _ e)
  exact ⟨mA, ⟨ob, n, ne⟩, r, q, z, d⟩
end
structure Cls (K : PySem.W.Frag) (C : Addr) : Prop where
  pg : PySem.W.plainGet K C Str.empty = true
  hd : PySem.W.hasDictIn K C = true
  po : PySem.W.plainOver K C = true
  sa : PySem.W.findIn K (.ref C) "__setattr__" = some (some (.builtin "object.__setattr__"))
theorem Cls.get {K : PySem.W.Frag} {C : Addr} (c : Cls K C) (f : Str) : PySem.W.plainGet K C f = true := c.pg
def NoAttr (K : PySem.W.Frag) (C : Addr) (f : Str) : Prop := PySem.W.findIn K (.ref C) f = some none
theorem NoAttr.taker {K : PySem.W.Frag} {C : Addr} {f : Str} (n : NoAttr K C f) : PySem.W.takerIn K C f = some none := by
  unfold PySem.W.takerIn
  rw [show PySem.W.findIn K (.ref C) f = some none from n]
  rfl
structure Meth (K : PySem.W.Frag) (C : Addr) (m : Str) (f : Addr) : Prop where
  at_ : PySem.W.findIn K (.ref C) m = some (some (.ref f))
  fn : PySem.W.isFn K (.ref f) = true
  kp : PySem.W.keepIn K (.ref f) = true
section
variable {X : Cx} {pins : List (Addr × Obj)} {σ : St} {H : Hp} {s : Shared} {a C dx : Addr} {fs : List (Str × V)} {f : Str} {v : V} {A : Around} {E : Value → Shared → Prop}
theorem getattr_ok {b : Bool} {Q : Value → Shared → Prop} (I : Inv X pins σ H s) (e : H a = some (.ins C dx fs)) (c : Cls X.K C) (n : NoAttr X.K C f) (l : fs.lookup f = some v)
    (h : ∀ u s', Inv X pins σ H s' → RelV v u → Q u s') : wpAny (model X.prog X.w) A (getAttr (.ref a) f b) Q E s := by
  obtain ⟨mA, O, r, _, _, _⟩ := ins_get I.hok e
  obtain ⟨u, hu, ru⟩ := RelO.some_of (v := v) (o := mA f) (by rw [← l]; exact r f)
  exact get_map I.kIn O (c.get f) c.hd n hu (handed_of ru) (h u _ (I.tok _) ru)
theorem getmeth_ok {m : Str} {g : Addr} {pl : Sem Bool} {Q : Value × List Value → Shared → Prop} (I : Inv X pins σ H s) (e : H a = some (.ins C dx fs)) (c : Cls X.K C) (k : Meth X.K C m g) (l : fs.lookup m = none)
    (h : Q (.ref g, [.ref a]) s) : wpAny (model X.prog X.w) A (getMethod (.ref a) m pl) Q E s := by
  obtain ⟨mA, O, r, _, _, _⟩ := ins_get I.hok e
  have hn : mA m = none := RelO.none_of (by rw [← l]; exact r m)
  exact get_meth I.kIn O (c.get m) k.at_ k.fn hn h
theorem setattr_ok {y : V} {u : Value} {Q : Unit → Shared → Prop} (I : Inv X pins σ H s) (e : H a = some (.ins C dx fs)) (c : Cls X.K C) (n : NoAttr X.K C f) (hl : fs.length < 1000) (ry : RelV y u)
    (h : ∀ s', Inv X pins σ (upd H a (.ins C dx (putF f y fs))) s' → Q () s') : wpAny (model X.prog X.w) A (setAttr (.ref a) f u) Q E s := by
  obtain ⟨mA, O, r, wi, _, ho⟩ := ins_get I.hok e
  have hz : (fs.map (·.1)).length ≤ sizeLine := by rw [List.length_map, sizeLine_eq]; omega
  refine set_map I.kIn O c.sa c.po n.taker c.hd wi hz fun h' O' sb => h _ ?_
  have hd : ∃ o, h'.get? dx = some o := let ⟨o, _, _, e', _⟩ := O'.ns; ⟨o, e'⟩
  refine I.write (x := a) (e := dx) (by rw [e]; exact True.intro) (.inr ho) (fun b q hb z => (sb.2 b hb).trans z) hd ?_
  refine ⟨by rw [upd_ne O.ne]; exact ho, ?_, O.ne, O'.obj, _, O'.ns, fun g => ?_, fun g hg => ?_⟩
  · have := length_putF f y fs; omega
  · show RelO ((putF f y fs).lookup g) (if g = f then some u else mA g)
    rw [lookup_putF]
    by_cases q : g = f
    · rw [if_pos q, if_pos q]; exact ry
    · rw [if_neg q, if_neg q]; exact r g
  · by_cases q : g = f
    · rw [q]; exact (keys_putF f y fs).1
    · refine (keys_putF f y fs).2 g (wi g fun z => hg ?_)
      show (if g = f then some u else mA g) = none
      rw [if_neg q]; exact z
theorem Inv.made (I : Inv X pins σ H s) : Inv X pins σ (upd (upd H s.heap.objs.size (.own (s.heap.objs.size + 1))) (s.heap.objs.size + 1) (.ins C s.heap.objs.size []))
    { s with heap := (s.heap.push PySem.W.emptyDict).push (PySem.W.instObj C s.heap.objs.size) } := by
  have e1 : (s.heap.push PySem.W.emptyDict).get? s.heap.objs.size = some PySem.W.emptyDict := Heap.get?_push_size s.heap rfl
  have e2 : ((s.heap.push PySem.W.emptyDict).push (PySem.W.instObj C s.heap.objs.size)).get? (s.heap.objs.size + 1) = some (PySem.W.instObj C s.heap.objs.size) := by
    have := Heap.get?_push_size (s.heap.push PySem.W.emptyDict) (o := PySem.W.instObj C s.heap.objs.size) rfl
    rwa [Heap.size_push] at this
  have e3 : (s.heap.push PySem.W.emptyDict).Ns s.heap.objs.size (fun _ => none) := ⟨PySem.W.emptyDict, #[], _, e1, rfl, (fun e he => absurd he (by simp)), fun _ => rfl⟩
  have I1 := I.laid (a := s.heap.objs.size) (o := .own (s.heap.objs.size + 1)) (h' := s.heap.push PySem.W.emptyDict) (t' := s.toks) (fun b u q => Heap.get?_push_of_some _ q) (Nat.le_refl _) ⟨_, e1⟩
  refine I1.laid (a := s.heap.objs.size + 1) (o := .ins C s.heap.objs.size []) (t' := s.toks) (fun b u q => Heap.get?_push_of_some _ q) (Nat.le_of_eq (Heap.size_push _ _)) ?_
  have ne : s.heap.objs.size ≠ s.heap.objs.size + 1 := Nat.ne_of_lt (Nat.lt_succ_self _)
  refine ⟨by rw [upd_ne ne, upd_same], Nat.zero_le _, ne, e2, fun _ => none, (Heap.Ns1.of_empty e3).at fun o q => Heap.get?_push_of_some _ q, fun _ => True.intro, fun y hy => absurd rfl hy⟩
theorem attr_of {prog : Program} {w : World} {env : Env} {e : Expr} {f : Str} {pos : Pos} {s : Shared} {Q : Value → Shared → Prop} (hb : attributeBase e f env (eval e env) = eval e env)
    (h : wpAny (model prog w) A (eval e env) (fun o s₁ => wpAny (model prog w) A (getAttr o f true) Q E s₁) E s) : wpAny (model prog w) A (eval (.Attribute e f pos) env) Q E s :=
  Attribute_any_ h (by rw [arm_eval_Attribute, hb])
end
def tFld (K : PySem.W.Frag) (ta : TE) (f : Str) : TE := fun σ H Q => ta σ H fun x H1 => ∃ a C dx fs v, x = .ref a ∧ H1 a = some (.ins C dx fs) ∧ Cls K C ∧ NoAttr K C f ∧ fs.lookup f = some v ∧ Q v H1
def sFld (K : PySem.W.Frag) (ta tv : TE) (f : Str) : TS := fun D σ H => tv σ H fun y H1 => ta σ H1 fun x H2 => ∃ a C dx fs, x = .ref a ∧ H2 a = some (.ins C dx fs) ∧ Cls K C ∧ NoAttr K C f ∧ fs.length < 1000 ∧
  D.nx σ (upd H2 a (.ins C dx (putF f y fs)))
def InOp (X : Cx) (op : Operator) (rd : V → V → Hp → VK → Prop) : Prop :=
  ∀ (pins : List (Addr × Obj)) (s : Shared) (σ : St) (H : Hp) (x y : V) (u v : Value) (Q : VK), Inv X pins σ H s → RelV x u → RelV y v → rd x y H Q → wpAny (model X.prog X.w) X.A (inplaceOp op u v) (EP X pins σ Q) X.xe s
def sFldAug (K : PySem.W.Frag) (ta tv : TE) (rd : V → V → Hp → VK → Prop) (f : Str) : TS := fun D σ H => ta σ H fun x H1 => ∃ a C dx fs v, x = .ref a ∧ H1 a = some (.ins C dx fs) ∧ Cls K C ∧ NoAttr K C f ∧ fs.lookup f = some v ∧
  tv σ H1 fun y H2 => rd v y H2 fun z H3 => ∃ dx' fs', H3 a = some (.ins C dx' fs') ∧ fs'.length < 1000 ∧ D.nx σ (upd H3 a (.ins C dx' (putF f z fs')))
section
variable {X : Cx} {o e value : Expr} {f : Str} {pos pos' tpos : Pos} {ta tv : TE}
theorem pe_fld (he : PE X e ta) (hb : attributeBase e f X.env (eval e X.env) = eval e X.env) : PE X (.Attribute e f pos) (tFld X.K ta f) := by
  intro pins s σ H Q I h
  refine attr_of hb (thn (he pins s σ H _ I h) fun u s1 ⟨x, H1, I1, rx, a, C, dx, fs, v, ex, ea, c, n, l, q⟩ => ?_)
  subst ex
  obtain rfl : u = Value.ref a := rx
  exact getattr_ok I1 ea c n l fun u' s2 I2 ru => ⟨v, H1, I2, ru, q⟩
theorem ps_fld (ha : PE X o ta) (hv : PE X value tv) (hs : swapsWith value (some (.Attribute o f pos')) pos.line X.env = pure false) : PS X (.Assign [.Attribute o f pos'] value pos) (sFld X.K ta tv f) := by
  intro pins s σ H D I h
  refine plainObj_wpAny_Assign_Attribute (thn (hv pins s σ H _ I h) fun u s1 ⟨y, H1, I1, ry, q⟩ => thn (ha pins s1 σ H1 _ I1 q) fun ov s2 ⟨x, H2, I2, rx, a, C, dx, fs, ex, ea, c, n, l, q2⟩ => ?_) hs
  subst ex
  obtain rfl : ov = Value.ref a := rx
  exact setattr_ok I2 ea c n l ry fun s3 I3 => ⟨σ, _, I3, q2⟩
theorem ps_fldaug {op : Operator} {rd : V → V → Hp → VK → Prop} (ha : PE X o ta) (hv : PE X value tv) (hop : InOp X op rd) : PS X (.AugAssign (.Attribute o f tpos) op value pos) (sFldAug X.K ta tv rd f) := by
  intro pins s σ H D I h
  refine wpAny_AugAssign_AttributeAny (thn (ha pins s σ H _ I h) fun ov s1 ⟨x, H1, I1, rx, a, C, dx, fs, v, ex, ea, c, n, l, q⟩ => ?_)
  subst ex
  obtain rfl : ov = Value.ref a := rx
  refine getattr_ok I1 ea c n l fun u s2 I2 ru => thn (hv pins s2 σ H1 _ I2 q) fun w3 s3 ⟨y, H2, I3, ry, q3⟩ => thn (hop pins s3 σ H2 v y u w3 _ I3 ru ry q3) fun w4 s4 ⟨z, H3, I4, rz, dx', fs', ea', l', q4⟩ => ?_
  exact setattr_ok I4 ea' c n l' rz fun s5 I5 => ⟨σ, _, I5, q4⟩
def rAdd : V → V → Hp → VK → Prop := fun x y H Q => ∃ i j, x = .int i ∧ y = .int j ∧ Q (.int (i + j)) H
theorem in_add : InOp X .Add rAdd := by
  rintro pins s σ H x y u v Q I rx ry ⟨i, j, rfl, rfl, q⟩
  obtain ⟨t, rfl⟩ := (show ∃ t, u = Value.int i t from rx)
  obtain ⟨t', rfl⟩ := (show ∃ t', v = Value.int j t' from ry)
  exact PyProof.Rows.iadd_int ⟨.int (i + j), H, I.tok _, ⟨_, rfl⟩, q⟩
end
section
variable {X : Cx} {pins : List (Addr × Obj)} {σ : St} {H : Hp} {s : Shared} {A : Around} {E : Value → Shared → Prop} {Q : Value → Shared → Prop} {c : Value} {b : Bool}
end
end L2
namespace L2
open PySem PySem.Spec PyProof.Rows
structure Room (k : Nat) (A : Around) : Prop where
  hd : A.handled = none
  dp : A.depth + 3 * k + 5 < recursionLimit
  un : A.units + 16 * k + 200 < cLine
theorem Room.mono {j k : Nat} {A : Around} (r : Room k A) (h : j ≤ k) : Room j A := ⟨r.hd, by have := r.dp; omega, by have := r.un; omega⟩
theorem Room.deeper {k : Nat} {A : Around} (r : Room (k + 1) A) (env : Env) : Room k (A.deeper env) :=
  ⟨r.hd, by have := r.dp; show A.depth + 1 + 3 * k + 5 < _; omega, by have := r.un; show A.units + 3 + 16 * k + 200 < _; omega⟩
theorem make_depth {A : Around} {C : Addr} {us : List Value} {kw : List (Str × Value)} : (A.under (.builtin "type.__call__" ⟨.ref C :: us, kw⟩)).depth = A.depth + 1 := by
  first | rfl | simp [Around.under, Code.weight, Code.isCreation, Code.isGuard, Code.isCaller, Code.frames, Code.isFrame, guardIds]
theorem make_units {A : Around} {C : Addr} {us : List Value} {kw : List (Str × Value)} : (A.under (.builtin "type.__call__" ⟨.ref C :: us, kw⟩)).units = A.units + 1 := by
  first | rfl | simp [Around.under, Code.cUnits, Code.frames, Code.isFrame]
theorem Room.make {k : Nat} {A : Around} (r : Room (k + 1) A) (C : Addr) (us : List Value) (kw : List (Str × Value)) : Room k (A.under (.builtin "type.__call__" ⟨.ref C :: us, kw⟩)) :=
  ⟨r.hd, by have := r.dp; rw [make_depth]; omega, by have := r.un; rw [make_units]; omega⟩
theorem Room.depth {k : Nat} {A : Around} (r : Room k A) : A.depth < recursionLimit := by have := r.dp; omega
def tNil : TA := fun _ H Q => Q [] H
def tCons (ta : TE) (tr : TA) : TA := fun σ H Q => ta σ H fun x H1 => tr σ H1 fun xs H2 => Q (x :: xs) H2
section
variable {X : Cx} {e : Expr} {es : List Expr} {te : TE} {t : TA} {pos : Pos}
theorem pa_nil : PA X [] tNil := fun _ _ _ _ H Q I h => Calls.spliced_nil ⟨[], H, I, .nil, h⟩
theorem pa_cons (ha : PE X e te) (hr : PA X es t) (hs : starEach (e :: es) X.env = (false, eval e X.env) :: starEach es X.env := by rfl) : PA X (e :: es) (tCons te t) := by
  intro pos pins s σ H Q I h
  rw [hs]
  show wpAny _ _ (spliced ((false, eval e X.env) :: backTo pos (starEach es X.env))) _ _ s
  refine Calls.spliced_cons (thn (ha pins s σ H _ I h) fun u s1 ⟨x, H1, I1, r1, q1⟩ => ?_)
  exact thn (hr pos pins s1 σ H1 _ I1 q1) fun us s2 ⟨xs, H2, I2, r2, q2⟩ => ⟨x :: xs, H2, I2, .cons r1 r2, q2⟩
def tLst (t : TA) : TE := fun σ H Q => t σ H fun xs H1 => xs.length ≤ sizeLine ∧ ∀ p, H1 p = none → Q (.ref p) (upd H1 p (.lst xs))
theorem pe_lst (h : PA X es t) : PE X (.List es pos) (tLst t) := by
  intro pins s σ H Q I hq
  refine wpAny_List_spliced (thn (h pos pins s σ H _ I hq) fun us s1 ⟨xs, H1, I1, r, z, q⟩ => ⟨by rw [← r.length]; exact z, ?_⟩)
  have hf : H1 s1.heap.objs.size = none := I1.hok.fresh (Nat.le_refl _)
  refine ⟨.ref s1.heap.objs.size, upd H1 s1.heap.objs.size (.lst xs), I1.laid (t' := s1.toks) (fun b u e => Heap.get?_push_of_some _ e) (Nat.le_refl _) ?_, rfl, q _ hf⟩
  exact ⟨z, us, 0, r, Heap.get?_push_size _ rfl⟩
end
abbrev Sp := List V → Hp → VK → XK → Prop
abbrev CXT := List Env → Hp → Shared → XK → Value → Shared → Prop
structure Env0 (P : Program) (w : World) (K : PySem.W.Frag) (mg : Str → Option Value) (base : Heap) (A : Around) (outer : List Env) (s : Shared) (H : Hp) : Prop where
  frames : A.frames = some outer
  mod : Mod K mg base
  bs : ∀ b o, base.get? b = some o → s.heap.get? b = some o ∧ H b = none
  bsz : base.objs.size ≤ s.heap.objs.size
  funs : s.heap.FunFrames base outer
  frf : ∀ b ∈ frs outer, H b = none
  hok : HOk P w H s.heap
  bare : AllBare s.gens
def CE (outer : List Env) (P : Program) (w : World) (H : Hp) (s : Shared) (Q : VK) (u : Value) (s' : Shared) : Prop :=
  ∃ v H', s'.os = s.os ∧ AllBare s'.gens ∧ Un (frs outer) [] H H' s.heap s'.heap ∧ HOk P w H' s'.heap ∧ RelV v u ∧ Q v H'
def CR (CX : CXT) (outer : List Env) (P : Program) (w : World) (H : Hp) (s : Shared) (Q : VK) (E : XK) (r : Result) (s' : Shared) : Prop :=
  match r with
  | .ok (.ret u) => CE outer P w H s Q u s'
  | .ok _ => False
  | .error e => CX outer H s E e s'
structure FnOk (P : Program) (w : World) (K : PySem.W.Frag) (mg : Str → Option Value) (base : Heap) (CX : CXT) (k : Nat) (f : Addr) (fd : FuncData) (ps : List Str) (sp : Sp) : Prop where
  len : ∀ vs H Q E, sp vs H Q E → vs.length = ps.length
  run : ∀ (A : Around) (outer : List Env) (s : Shared) (H : Hp) (args : Args) (us : List Value) (vs : List V) (Q : VK) (E : XK), Room k A → Env0 P w K mg base A outer s H → BindsTo s fd args (ps.zip us) → Vals vs us → sp vs H Q E →
    codeAny (model P w) A (.call (.ref f) args) (CR CX outer P w H s Q E) s
theorem Env0.make {P : Program} {w : World} {K : PySem.W.Frag} {mg : Str → Option Value} {base : Heap} {A : Around} {outer : List Env} {s : Shared} {H : Hp} (e : Env0 P w K mg base A outer s H) (C : Addr) (us : List Value) (kw : List (Str × Value)) :
    Env0 P w K mg base (A.under (.builtin "type.__call__" ⟨.ref C :: us, kw⟩)) outer s H := ⟨by first | exact e.frames | (simpa [Around.under, Code.envs, Code.isFrame, pushEnvs] using e.frames), e.mod, e.bs, e.bsz, e.funs, e.frf, e.hok, e.bare⟩
section
variable {X : Cx} {pins : List (Addr × Obj)} {σ : St} {H : Hp} {s s' : Shared}
theorem Inv.env0 (I : Inv X pins σ H s) : Env0 X.prog X.w X.K X.mg X.base X.A X.stack s H :=
  ⟨I.ok.frames, I.ok.mod, I.bs, Nat.le_trans I.ok.bsz I.sz, I.stack, I.stkFree, I.hok, I.bare⟩
theorem Inv.after {Q : VK} {u : Value} (I : Inv X pins σ H s) (h : CE X.stack X.prog X.w H s Q u s') : EP X pins σ Q u s' := by
  obtain ⟨v, H', os, bare, un, hok, r, q⟩ := h
  obtain ⟨hh, g, d, t, os'⟩ := s'
  obtain rfl : os' = s.os := os
  exact ⟨v, H', I.call (h' := hh) (g' := g) (d' := d) (t' := t) (ch := []) un hok bare (fun b z => absurd z (by simp)), r, q⟩
end
def tCall (sp : Sp) (dvs : List V) (E : XK) (t : TA) : TE := fun σ H Q => t σ H fun vs H1 => sp (vs ++ dvs) H1 Q E
def tMeth (C : Addr) (m : Str) (sp : Sp) (dvs : List V) (E : XK) (ta : TE) (t : TA) : TE := fun σ H Q => ta σ H fun x H1 => ∃ a dx fs, x = .ref a ∧ H1 a = some (.ins C dx fs) ∧ fs.lookup m = none ∧
  t σ H1 fun vs H2 => sp (x :: (vs ++ dvs)) H2 Q E
def tMake (C : Addr) (sp : Sp) (dvs : List V) (E : XK) (t : TA) : TE := fun σ H Q => t σ H fun vs H1 => ∀ x dx, H1 x = none → H1 dx = none → dx ≠ x →
  sp (.ref x :: (vs ++ dvs)) (upd (upd H1 dx (.own x)) x (.ins C dx [])) (fun v H2 => v = .non ∧ Q (.ref x) H2) E
def Binds (K : PySem.W.Frag) (fd : FuncData) (ps : List Str) (ds : List Value) : Prop :=
  ∀ (s : Shared) (us : List Value), K.In s.heap → (us ++ ds).length = ps.length → BindsTo s fd ⟨us, []⟩ (ps.zip (us ++ ds))
theorem Binds.all {K : PySem.W.Frag} {fd : FuncData} {ps : List Str} (h : ∀ us : List Value, us.length = ps.length → bindArgs fd ⟨us, []⟩ = pure (ps.zip us)) : Binds K fd ps [] := fun s us _ hl => by
  rw [List.append_nil] at hl ⊢
  exact .of_eq (h us hl)
def Passes (CX : CXT) (X : Cx) (E : XK) : Prop := ∀ (pins : List (Addr × Obj)) (σ : St) (H : Hp) (s : Shared) (e : Value) (s' : Shared), Inv X pins σ H s → CX X.stack H s E e s' → X.xe e s'
section
variable {X : Cx} {CX : CXT} {k : Nat} {f C : Addr} {fd : FuncData} {ps : List Str} {sp : Sp} {dvs : List V} {ds : List Value} {E : XK} {x m : Str} {p pos apos : Pos} {e o : Expr} {es : List Expr} {ta : TE} {t : TA}
theorem run_fn {pins : List (Addr × Obj)} {σ : St} {H : Hp} {s : Shared} {Q : VK} {us : List Value} {vs : List V} (F : FnOk X.prog X.w X.K X.mg X.base CX k f fd ps sp) (hr : Room k X.A) (hb : Binds X.K fd ps ds) (hd : Vals dvs ds) (hx : Passes CX X E)
    (I : Inv X pins σ H s) (r : Vals vs us) (h : sp (vs ++ dvs) H Q E) : wpAny (model X.prog X.w) X.A (call (.ref f) us) (EP X pins σ Q) X.xe s := by
  have r2 : Vals (vs ++ dvs) (us ++ ds) := r.append hd
  have hl : (us ++ ds).length = ps.length := by rw [← r2.length]; exact F.len _ _ _ _ h
  refine wpAny_call (codeAny_mono (F.run X.A X.stack s H ⟨us, []⟩ (us ++ ds) (vs ++ dvs) Q E hr I.env0 (hb s us I.kIn hl) r2 h) fun r s' hq => ?_)
  cases r with
  | error e => exact hx pins σ H s e s' I hq
  | ok fl =>
    cases fl with
    | ret u => exact I.after hq
    | next => exact False.elim hq
    | brk => exact False.elim hq
    | cont => exact False.elim hq
theorem pe_call (F : FnOk X.prog X.w X.K X.mg X.base CX k f fd ps sp) (hr : Room k X.A) (hg : Gl X x) (hm : X.mg x = some (.ref f)) (hk : PySem.W.keepIn X.K (.ref f) = true) (hb : Binds X.K fd ps ds) (hd : Vals dvs ds) (hx : Passes CX X E)
    (ha : PA X (e :: es) t) (hdb : (x == ("__debug__" : Str)) = false := by decide) (he : starEach (e :: es) X.env = (false, eval e X.env) :: starEach es X.env := by rfl) (hpl : (backTo pos (starEach es X.env)).any (·.1) = false := by rfl) :
    PE X (.Call (.Name x p) (e :: es) [] pos) (tCall sp dvs E t) := by
  intro pins s σ H Q I h
  refine wpAny_Call_Name_kw (ld_glob I hg hm ?_ hdb)
  refine PySem.W.callWith_K (h₀ := X.base) I.ok.mod.kin hk (thn (ha pos pins s σ H _ I h) fun us s1 ⟨vs, H1, I1, r, q⟩ => ⟨I1.kIn, ?_⟩) he hpl
  exact run_fn F hr hb hd hx I1 r q
theorem pe_meth {pl : Sem Bool} (he : PE X o ta) (c : Cls X.K C) (hm : Meth X.K C m f) (F : FnOk X.prog X.w X.K X.mg X.base CX k f fd ps sp) (hr : Room k X.A) (hb : Binds X.K fd ps ds) (hd : Vals dvs ds) (hx : Passes CX X E) (ha : PA X (e :: es) t)
    (hst : starEach (e :: es) X.env = (false, eval e X.env) :: starEach es X.env := by rfl) (hpl : (backTo pos (starEach es X.env)).any (·.1) = false := by rfl)
    (ht : eval (.Call (.Attribute o m apos) (e :: es) [] pos) X.env = (do
      let ov ← eval o X.env
      standAt apos.atName
      let (f, first) ← holding [ov] (getMethod ov m pl)
      callWith pos f first (backTo pos (starEach (e :: es) X.env)) (backToKw pos (keywordEach [] X.env))) := by rfl) :
    PE X (.Call (.Attribute o m apos) (e :: es) [] pos) (tMeth C m sp dvs E ta t) := by
  intro pins s σ H Q I h
  refine PySem.W.methodCall_KW (pl := pl) (thn (he pins s σ H _ I h) fun u s1 ⟨x, H1, I1, rx, a, dx, fs, ex, ea, l, q⟩ => ?_) ht
  subst ex
  obtain rfl : u = Value.ref a := rx
  refine getmeth_ok I1 ea c hm l ?_
  refine PySem.W.callWith_K (first := [.ref a]) (h₀ := X.base) I.ok.mod.kin hm.kp (thn (ha pos pins s1 σ H1 _ I1 q) fun us s2 ⟨vs, H2, I2, r, q2⟩ => ⟨I2.kIn, ?_⟩) hst hpl
  exact run_fn (us := .ref a :: us) (vs := .ref a :: vs) F hr hb hd hx I2 (.cons rfl r) q2
theorem pe_meth0 {pl : Sem Bool} (he : PE X o ta) (c : Cls X.K C) (hm : Meth X.K C m f) (F : FnOk X.prog X.w X.K X.mg X.base CX k f fd ps sp) (hr : Room k X.A) (hb : Binds X.K fd ps ds) (hd : Vals dvs ds) (hx : Passes CX X E)
    (ht : eval (.Call (.Attribute o m apos) [] [] pos) X.env = (do
      let ov ← eval o X.env
      standAt apos.atName
      let (f, first) ← holding [ov] (getMethod ov m pl)
      callWith pos f first (backTo pos (starEach [] X.env)) (backToKw pos (keywordEach [] X.env))) := by rfl) :
    PE X (.Call (.Attribute o m apos) [] [] pos) (tMeth C m sp dvs E ta tNil) := by
  intro pins s σ H Q I h
  refine PySem.W.methodCall_KW (pl := pl) (thn (he pins s σ H _ I h) fun u s1 ⟨x, H1, I1, rx, a, dx, fs, ex, ea, l, q⟩ => ?_) ht
  subst ex
  obtain rfl : u = Value.ref a := rx
  refine getmeth_ok I1 ea c hm l ?_
  exact PySem.W.callWith_K0 (first := [.ref a]) I1.kIn hm.kp (run_fn (us := [.ref a]) (vs := [.ref a]) F hr hb hd hx I1 (.cons rfl .nil) q)
structure Mk (K : PySem.W.Frag) (C f : Addr) : Prop where
  makes : PySem.W.makesIn K C = true
  init : PySem.W.findIn K (.ref C) "__init__" = some (some (.ref f))
  fn : PySem.W.isFn K (.ref f) = true
  kp : PySem.W.keepIn K (.ref C) = true
theorem run_make {pins : List (Addr × Obj)} {σ : St} {H : Hp} {s : Shared} {Q : VK} {us : List Value} {vs : List V} (M : Mk X.K C f) (F : FnOk X.prog X.w X.K X.mg X.base CX k f fd ps sp) (hr : Room (k + 1) X.A) (hb : Binds X.K fd ps ds) (hd : Vals dvs ds)
    (hx : Passes CX X E) (I : Inv X pins σ H s) (r : Vals vs us)
    (h : ∀ x dx, H x = none → H dx = none → dx ≠ x → sp (.ref x :: (vs ++ dvs)) (upd (upd H dx (.own x)) x (.ins C dx [])) (fun v H2 => v = .non ∧ Q (.ref x) H2) E) :
    wpAny (model X.prog X.w) X.A (call (.ref C) us) (EP X pins σ Q) X.xe s := by
  have hq := h (s.heap.objs.size + 1) s.heap.objs.size (I.hok.fresh (Nat.le_succ _)) (I.hok.fresh (Nat.le_refl _)) (Nat.ne_of_lt (Nat.lt_succ_self _))
  have I2 := Inv.made (C := C) I
  have r2 : Vals (V.ref (s.heap.objs.size + 1) :: (vs ++ dvs)) (Value.ref (s.heap.objs.size + 1) :: (us ++ ds)) := .cons rfl (r.append hd)
  have hl : (Value.ref (s.heap.objs.size + 1) :: us ++ ds).length = ps.length := by
    have e := r2.length
    rw [F.len _ _ _ _ hq] at e
    exact e.symm
  refine wpAny_call (make_map (f := f) I.kIn M.makes M.init (beq_iff_eq.mp M.fn) (codeAny_mono (F.run _ X.stack _ _ ⟨Value.ref (s.heap.objs.size + 1) :: us, []⟩ (Value.ref (s.heap.objs.size + 1) :: (us ++ ds)) _ _ E (hr.make C us [])
    (I2.env0.make C us []) (hb _ (Value.ref (s.heap.objs.size + 1) :: us) I2.kIn hl) r2 hq) fun r s' hq' => ?_))
  cases r with
  | error e => exact hx pins σ _ _ e s' I2 hq'
  | ok fl =>
    cases fl with
    | ret u =>
      obtain ⟨v, H', I3, rv, ev, q3⟩ := I2.after hq'
      subst ev
      exact ⟨rv, ⟨V.ref (s.heap.objs.size + 1), H', I3, rfl, q3⟩⟩
    | next => exact False.elim hq'
    | brk => exact False.elim hq'
    | cont => exact False.elim hq'
theorem pe_make (M : Mk X.K C f) (F : FnOk X.prog X.w X.K X.mg X.base CX k f fd ps sp) (hr : Room (k + 1) X.A) (hg : Gl X x) (hm : X.mg x = some (.ref C)) (hb : Binds X.K fd ps ds) (hd : Vals dvs ds) (hx : Passes CX X E)
    (ha : PA X (e :: es) t) (hdb : (x == ("__debug__" : Str)) = false := by decide) (he : starEach (e :: es) X.env = (false, eval e X.env) :: starEach es X.env := by rfl) (hpl : (backTo pos (starEach es X.env)).any (·.1) = false := by rfl) :
    PE X (.Call (.Name x p) (e :: es) [] pos) (tMake C sp dvs E t) := by
  intro pins s σ H Q I h
  refine wpAny_Call_Name_kw (ld_glob I hg hm ?_ hdb)
  refine PySem.W.callWith_K (h₀ := X.base) I.ok.mod.kin M.kp (thn (ha pos pins s σ H _ I h) fun us s1 ⟨vs, H1, I1, r, q⟩ => ⟨I1.kIn, ?_⟩) he hpl
  exact run_make M F hr hb hd hx I1 r q
theorem pe_make0 (M : Mk X.K C f) (F : FnOk X.prog X.w X.K X.mg X.base CX k f fd ps sp) (hr : Room (k + 1) X.A) (hg : Gl X x) (hm : X.mg x = some (.ref C)) (hb : Binds X.K fd ps ds) (hd : Vals dvs ds) (hx : Passes CX X E)
    (hdb : (x == ("__debug__" : Str)) = false := by decide) : PE X (.Call (.Name x p) [] [] pos) (tMake C sp dvs E tNil) := by
  intro pins s σ H Q I h
  refine wpAny_Call_Name_kw (ld_glob I hg hm ?_ hdb)
  exact PySem.W.callWith_K0 I.kIn M.kp (run_make (us := []) M F hr hb hd hx I .nil h)
end
def PK (X : Cx) (kws : List Keyword) (t : TA) : Prop :=
  ∀ (pos : Pos) (pins : List (Addr × Obj)) (s : Shared) (σ : St) (H : Hp) (Q : List V → Hp → Prop), Inv X pins σ H s → t σ H Q → wpAny (model X.prog X.w) X.A (evalAll ((backToKw pos (keywordEach kws X.env)).map (·.2))) (AP X pins σ Q) X.xe s
section
variable {X : Cx} {CX : CXT} {k : Nat} {f C : Addr} {fd : FuncData} {ps ks : List Str} {sp : Sp} {E : XK} {x m : Str} {p pos apos kpos : Pos} {e o : Expr} {es : List Expr} {kws : List Keyword} {te ta : TE} {t tk : TA} {nm : Option Str}
theorem pk_nil : PK X [] tNil := fun _ _ _ _ H Q I h => wpAny_evalAll_nil ⟨[], H, I, .nil, h⟩
theorem pk_cons (ha : PE X e te) (hr : PK X kws t) : PK X (⟨nm, e, kpos⟩ :: kws) (tCons te t) := by
  intro pos pins s σ H Q I h
  show wpAny _ _ (evalAll ((do let v ← eval e X.env; standAt pos; pure v) :: (backToKw pos (keywordEach kws X.env)).map (·.2))) _ _ s
  refine wpAny_evalAll_cons (wpAny_bind (thn (ha pins s σ H _ I h) fun u s1 ⟨x, H1, I1, r1, q1⟩ => wpAny_bind (wpAny_standAt (wpAny_pure ?_))))
  exact thn (hr pos pins s1 σ H1 _ I1 q1) fun us s2 ⟨xs, H2, I2, r2, q2⟩ => ⟨x :: xs, H2, I2, .cons r1 r2, q2⟩
variable {g : List Value → List Value → List Value} {gV : List V → List V → List V}
end
structure FnScope (N P : List Str) (sc : Scope) : Prop where
  kind : sc.kind = .function
  co : sc.isCoroutine = false
  gen : sc.isGenerator = false
  nd : N.Nodup
  pre : N.take P.length = P
  par : ∀ x ∈ P, sc.names.lookup x = some .local ∨ sc.names.lookup x = some .cell
  nofree : ∀ y ∈ sc.names, y.2 ≠ .free
theorem bindL_out {kindOf : Str → Option NameKind} {x : Str} : ∀ {binds : List (Str × Value)} {m : Str → Option Value}, (∀ v, (x, v) ∉ binds) → bindL kindOf binds m x = m x
  | [], _, _ => rfl
  | (n, v) :: r, m, h => by
    unfold bindL
    rw [bindL_out fun w hw => h w (List.mem_cons_of_mem _ hw)]
    split
    · have : x ≠ n := by rintro rfl; exact h v List.mem_cons_self
      simp [this]
    · rfl
theorem bindC_out {kindOf : Str → Option NameKind} {x : Str} : ∀ {binds : List (Str × Value)} {m : Str → Option Value}, (∀ v, (x, v) ∉ binds) → bindC kindOf binds m x = m x
  | [], _, _ => rfl
  | (n, v) :: r, m, h => by
    unfold bindC
    rw [bindC_out fun w hw => h w (List.mem_cons_of_mem _ hw)]
    split
    · rfl
    · have : x ≠ n := by rintro rfl; exact h v List.mem_cons_self
      simp [this]
theorem bindL_get {kindOf : Str → Option NameKind} {x : Str} {v : Value} : ∀ {P : List Str} {vs : List Value} {i : Nat} {m : Str → Option Value}, P.Nodup → P[i]? = some x → vs[i]? = some v → kindOf x = some .local →
    bindL kindOf (P.zip vs) m x = some v
  | [], _, _, _, _, h, _, _ => by simp at h
  | _ :: _, [], _, _, _, _, h, _ => by simp at h
  | p :: P, w :: vs, 0, m, nd, h1, h2, hk => by
    simp at h1 h2; subst h1; subst h2
    show bindL kindOf ((p, w) :: P.zip vs) m p = _
    unfold bindL
    rw [bindL_out fun v hv => (List.nodup_cons.mp nd).1 (List.of_mem_zip hv).1, if_pos hk]
    simp
  | p :: P, w :: vs, i + 1, m, nd, h1, h2, hk => by
    show bindL kindOf ((p, w) :: P.zip vs) m x = _
    unfold bindL
    exact bindL_get (i := i) (List.nodup_cons.mp nd).2 (by simpa using h1) (by simpa using h2) hk
theorem bindC_get {kindOf : Str → Option NameKind} {x : Str} {v : Value} : ∀ {P : List Str} {vs : List Value} {i : Nat} {m : Str → Option Value}, P.Nodup → P[i]? = some x → vs[i]? = some v → kindOf x ≠ some .local →
    bindC kindOf (P.zip vs) m x = some v
  | [], _, _, _, _, h, _, _ => by simp at h
  | _ :: _, [], _, _, _, _, h, _ => by simp at h
  | p :: P, w :: vs, 0, m, nd, h1, h2, hk => by
    simp at h1 h2; subst h1; subst h2
    show bindC kindOf ((p, w) :: P.zip vs) m p = _
    unfold bindC
    rw [bindC_out fun v hv => (List.nodup_cons.mp nd).1 (List.of_mem_zip hv).1, if_neg hk]
    simp
  | p :: P, w :: vs, i + 1, m, nd, h1, h2, hk => by
    show bindC kindOf ((p, w) :: P.zip vs) m x = _
    unfold bindC
    exact bindC_get (i := i) (List.nodup_cons.mp nd).2 (by simpa using h1) (by simpa using h2) hk
def start (N : List Str) (vs : List V) : St := vs.map some ++ List.replicate (N.length - vs.length) none
def cxOf (CX : CXT) (P : Program) (w : World) (K : PySem.W.Frag) (mg : Str → Option Value) (base : Heap) (N : List Str) (qual : Str) (scope : Scope) (f : Addr) (cd : Value) (A : Around) (outer : List Env) (s : Shared) (H : Hp) (E : XK) : Cx where
  prog := P
  w := w
  K := K
  mg := mg
  base := base
  A := A.deeper (envOfC qual scope s.heap.objs.size f cd)
  N := N
  s_0 := s
  H_0 := H
  env := envOfC qual scope s.heap.objs.size f cd
  outer := outer
  stack := envOfC qual scope s.heap.objs.size f cd :: outer
  ex := []
  calm := true
  fn := fun _ => true
  pn := []
  xe := fun e s' => wpAny (model P w) (A.deeper (envOfC qual scope s.heap.objs.size f cd)) (leaving (envOfC qual scope s.heap.objs.size f cd) e) (fun _ s'' => CX outer H s E e s'') (fun e' s'' => CX outer H s E e' s'') s'
theorem cell_has {sc : Scope} {n : Nat} {x : Str} (h : sc.names.lookup x = some .cell) : ∃ c, (cellsFrom n sc.names []).lookup x = some c := by
  have q := PySem.W.cellsFrom_some sc.names n [] (.inl h)
  exact Option.isSome_iff_exists.mp q
theorem inv_start {CX : CXT} {P : Program} {w : World} {K : PySem.W.Frag} {mg : Str → Option Value} {base : Heap} {N ps : List Str} {qual : Str} {scope : Scope} {f : Addr} {cd : Value} {A : Around} {outer : List Env} {s s1 : Shared} {H : Hp} {E : XK} {us : List Value} {vs : List V}
    (S : FnScope N ps scope) (hd : A.handled = none) (e0 : Env0 P w K mg base A outer s H) (hl : vs.length = ps.length) (r : Vals vs us)
    (x : InCallC s s.heap.objs.size (bindL (envOfC qual scope s.heap.objs.size f cd).kindOf (ps.zip us) fun _ => none) (cellsFrom (s.heap.objs.size + 1) scope.names []) (bindC (envOfC qual scope s.heap.objs.size f cd).kindOf (ps.zip us) fun _ => none) s1) :
    Inv (cxOf CX P w K mg base N qual scope f cd A outer s H E) [] (start N vs) H s1 := by
  have hpl : ps.length ≤ N.length := by have := congrArg List.length S.pre; rw [List.length_take] at this; omega
  obtain ⟨h1, tk, rfl, hk⟩ := x.done
  have noA : ∀ b : Addr, b ∉ (cxOf CX P w K mg base N qual scope f cd A outer s H E).ex := fun b z => absurd (show b ∈ ([] : List Addr) from z) (by simp)
  refine ⟨⟨e0.mod, S.kind, rfl, rfl, Nat.le_refl _, fun y z c h1 h2 => ?_, fun y hy => ?_, fun y c _ h => ?_, fun _ => hd, Around.frames_deeper e0.frames, .inr ⟨rfl, rfl⟩, fun b z => absurd z (noA b), e0.bs, e0.bsz, fun b _ _ => noA b, fun b z => absurd z (noA b), e0.funs, e0.frf⟩,
    rfl, e0.bare, Un.kept hk, ⟨_, x.toInCall.ns, fun i y v h1 h2 h3 => ?_⟩, fun y c h => ⟨_, x.cell y c h⟩, e0.hok.fresh (Nat.le_refl _), fun y c h => ?_, fun p hp => absurd (show p ∈ ([] : List (Addr × Obj)) from hp) (by simp), e0.hok.kept hk, ?_⟩
  · exact name_of_addr x.apart (PySem.mem_of_lookup h1) (PySem.mem_of_lookup h2)
  · have hy : scope.names.lookup y = some .cell ∨ scope.names.lookup y = some .free := hy
    rcases hy with hy | hy
    · exact cell_has hy
    · exact absurd rfl (S.nofree _ (PySem.mem_of_lookup hy))
  · exact Nat.le_of_lt (x.above y c (PySem.mem_of_lookup h))
  · have hi : i < vs.length := by
      unfold start at h2
      by_cases hi : i < vs.length
      · exact hi
      · rw [List.getElem?_append_right (by simpa using hi)] at h2
        rw [List.getElem?_replicate] at h2
        split at h2 <;> cases h2
    have ha : vs[i]? = some v := by
      unfold start at h2
      rw [List.getElem?_append_left (by simpa using hi), List.getElem?_map] at h2
      cases e : vs[i]? with
      | none => rw [e] at h2; cases h2
      | some a => rw [e] at h2; cases h2; rfl
    obtain ⟨u, hu, rv⟩ := r.get ha
    have hp : ps[i]? = some y := by
      rw [← S.pre, List.getElem?_take_of_lt (by omega)]; exact h1
    have ndP : ps.Nodup := by rw [← S.pre]; exact S.nd.sublist (List.take_sublist _ _)
    refine ⟨u, rv, ?_⟩
    rcases S.par y (List.mem_of_getElem? hp) with k | k
    · exact .inl ⟨k, bindL_get ndP hp hu k⟩
    · obtain ⟨c, e⟩ := cell_has (n := s.heap.objs.size + 1) k
      refine .inr ⟨.inl k, c, e, ?_⟩
      have q := x.cell y c e
      rw [bindC_get ndP hp hu (by show scope.names.lookup y ≠ _; rw [k]; decide)] at q
      exact q
  · exact e0.hok.fresh (Nat.le_of_lt (x.above y c (PySem.mem_of_lookup h)))
  · unfold start
    show _ = N.length
    rw [List.length_append, List.length_map, List.length_replicate]
    omega
theorem fn_of {CX : CXT} {P : Program} {w : World} {K : PySem.W.Frag} {mg : Str → Option Value} {base : Heap} {k : Nat} {f : Addr} {name qual : Str} {params : Arguments} {body : List Stmt} {scope : Scope} {dV kV doc pm cdv ct oc : Value} {an od : Option Addr}
    {osl : Array (Option Value)} {N ps : List Str} {sp : Sp} (lk : K.lookup f = some ⟨oc, od, .func (PySem.W.fnOf name qual params body scope dV kV doc pm an cdv ct), osl⟩) (hcd : PySem.W.codeIn K cdv qual = true) (S : FnScope N ps scope)
    (len : ∀ vs H Q E, sp vs H Q E → vs.length = ps.length)
    (hbody : ∀ (A : Around) (outer : List Env) (s : Shared) (H : Hp) (vs : List V) (Q : VK) (E : XK), Room k (A.deeper (envOfC qual scope s.heap.objs.size f cdv)) → sp vs H Q E →
      ∃ t, PSs (cxOf CX P w K mg base N qual scope f cdv A outer s H E) body t ∧ t { nx := fun _ H' => Q .non H', rt := Q } (start N vs) H) :
    FnOk P w K mg base CX (k + 1) f (PySem.W.fnOf name qual params body scope dV kV doc pm an cdv ct) ps sp := by
  refine ⟨len, fun A outer s H args us vs Q E hr e0 hb r hsp => ?_⟩
  have hl := len _ _ _ _ hsp
  have KX : K.In s.heap := e0.mod.kin.keeps fun b o e => (e0.bs b o e).1
  have lim : s.heap.NoLimit := e0.mod.nolimit.keeps fun b o e => (e0.bs b o e).1
  have hkind : ∀ y ∈ ps.zip us, scope.names.lookup y.1 = some .local ∨ (scope.names.lookup y.1 = some .cell ∧ ((cellsFrom (s.heap.objs.size + 1) scope.names []).lookup y.1).isSome = true) := fun ⟨n, v⟩ hy => by
    rcases S.par n (List.of_mem_zip hy).1 with q | q
    · exact .inl q
    · exact .inr ⟨q, PySem.W.cellsFrom_some _ _ _ (.inl q)⟩
  refine codeAny_call_function hr.depth (KX _ _ lk) rfl S.co S.gen rfl (PySem.W.codeRec_of KX hcd) (hb _ _ _ _ ?_)
  refine wpAny_newFunctionEnv_cells S.kind hkind fun env he s1 x => ?_
  subst he
  refine ⟨lim.keeps x.toInCall.keep, codeAny_func ?_⟩
  obtain ⟨t, ht, hq⟩ := hbody A outer s H vs Q E (hr.deeper _) hsp
  have I : Inv (cxOf CX P w K mg base N qual scope f cdv A outer s H E) [] (start N vs) H s1 := inv_start S hr.hd e0 hl r x
  refine wpAny_mono (ht [] s1 (start N vs) H _ I hq) (fun fl s' hs => ?_) fun e s' hs => hs
  have fin : ∀ {σ' : St} {H' : Hp} {v : V} {u : Value}, Inv (cxOf CX P w K mg base N qual scope f cdv A outer s H E) [] σ' H' s' → RelV v u → Q v H' → CE outer P w H s Q u s' :=
    fun {σ' H' v u} J rv q => ⟨v, H', J.os, J.bare, J.base, J.hok, rv, q⟩
  cases fl with
  | ret u =>
    obtain ⟨v, σ', H', J, rv, q⟩ := hs
    exact fin J rv q
  | next =>
    obtain ⟨σ', H', J, q⟩ := hs
    exact fin (v := V.non) (u := Value.none) J rfl q
  | brk =>
    obtain ⟨_, _, _, q⟩ := hs
    exact False.elim q
  | cont =>
    obtain ⟨_, _, _, q⟩ := hs
    exact False.elim q
end L2
namespace L2
open PySem PySem.Spec PyProof.Rows
section
variable {X : Cx} {x : Str} {p pos : Pos} {e : Expr} {es : List Expr} {t : TA} {id T : String} {r : List V → Hp → VK → Prop}
def tCB (r : List V → Hp → VK → Prop) (t : TA) : TE := fun σ H Q => t σ H fun vs H1 => r vs H1 Q
theorem pe_callB (hc : CallR X (.builtin id) r) (hg : Gl X x) (hm : X.mg x = none) (hv : bootBuiltins x = some (.builtin id)) (ha : PA X (e :: es) t) (hn : x ≠ "__name__" := by decide) (hdb : (x == ("__debug__" : Str)) = false := by decide)
    (he : starEach (e :: es) X.env = (false, eval e X.env) :: starEach es X.env := by rfl) (hpl : (backTo pos (starEach es X.env)).any (·.1) = false := by rfl) : PE X (.Call (.Name x p) (e :: es) [] pos) (tCB r t) := by
  intro pins s σ H Q I h
  refine wpAny_Call_Name_kw (ld_blt I hg hm hv ?_ hn hdb)
  exact PyProof.Rows.callWith_builtin1 (thn (ha pos pins s σ H _ I h) fun us s1 ⟨vs, H1, I1, r1, q1⟩ => hc pins s1 σ H1 vs us Q I1 r1 q1) he hpl
theorem pe_callTy (hc : CallR X (.type T) r) (hg : Gl X x) (hm : X.mg x = none) (hv : bootBuiltins x = some (.type T)) (ha : PA X (e :: es) t) (hn : x ≠ "__name__" := by decide) (hdb : (x == ("__debug__" : Str)) = false := by decide)
    (he : starEach (e :: es) X.env = (false, eval e X.env) :: starEach es X.env := by rfl) (hpl : (backTo pos (starEach es X.env)).any (·.1) = false := by rfl) : PE X (.Call (.Name x p) (e :: es) [] pos) (tCB r t) := by
  intro pins s σ H Q I h
  refine wpAny_Call_Name_kw (ld_blt I hg hm hv ?_ hn hdb)
  exact PyProof.Rows.callWith_type1 (thn (ha pos pins s σ H _ I h) fun us s1 ⟨vs, H1, I1, r1, q1⟩ => hc pins s1 σ H1 vs us Q I1 r1 q1) he hpl
end
end L2
namespace HT
open PySem PyProof.Rows
section
open PySem.SeqAt
open PySem.AutoSeq1 (wpAny_loadPart')
open PySem.MeetsSeq PySem.MeetsSeq2 PySem.MeetsSeq3
end
section
variable {prog : Program} {w : World} {A : Around} {E : Value → Shared → Prop} {s : Shared}
def sIx (n d : Nat) : Option Int → Nat
  | none => d
  | some v => if v < 0 then (v + (n : Int)).toNat else min v.toNat n
end
end HT
namespace L2
open PySem PySem.Spec PyProof.Rows
abbrev TO := St → Hp → (Option Int → Hp → Prop) → Prop
def PO (X : Cx) (e : Option Expr) (t : TO) : Prop :=
  ∀ (pins : List (Addr × Obj)) (s : Shared) (σ : St) (H : Hp) (Q : Option Int → Hp → Prop), Inv X pins σ H s → t σ H Q →
    wpAny (model X.prog X.w) X.A (evalPart e X.env) (fun u s' => ∃ o H', Inv X pins σ H' s' ∧ IsPart u o ∧ Q o H') X.xe s
def tNoPart : TO := fun _ H Q => Q none H
def tPart (t : TE) : TO := fun σ H Q => t σ H fun x H1 => ∃ i, x = .int i ∧ Q (some i) H1
section
variable {X : Cx} {e : Expr} {te : TE} {lo hi : Option Expr} {tl th : TO} {pos p2 : Pos}
theorem po_none : PO X none tNoPart := by
  intro pins s σ H Q I h
  rw [evalPart_none]
  exact wpAny_pure ⟨none, H, I, .none, h⟩
theorem po_some (h : PE X e te) : PO X (some e) (tPart te) := by
  intro pins s σ H Q I hw
  rw [evalPart_some]
  refine thn (h pins s σ H _ I hw) fun u s1 ⟨x, H1, I1, r1, q1⟩ => ?_
  obtain ⟨i, rfl, q⟩ := q1
  obtain ⟨t, rfl⟩ := r1
  exact ⟨some i, H1, I1, .int i t, q⟩
def SlR (X : Cx) (r : V → Option Int → Option Int → Hp → VK → Prop) : Prop :=
  ∀ (pins : List (Addr × Obj)) (s : Shared) (σ : St) (H : Hp) (x : V) (v vl vu : Value) (lo hi : Option Int) (sl : Addr) (Q : VK), Inv X pins σ H s → RelV x v → s.heap.IsSliceOf sl vl vu .none → IsPart vl lo → IsPart vu hi → r x lo hi H Q →
    ∃ T id, typeLookup (.type T) "__getitem__" = pure (some (.builtin id)) ∧ s.TypeIs v T ∧ wpAny (model X.prog X.w) X.A (getItem v (.ref sl)) (EP X pins σ Q) X.xe s
def tSl (r : V → Option Int → Option Int → Hp → VK → Prop) (te : TE) (tl th : TO) : TE := fun σ H Q => te σ H fun x H1 => tl σ H1 fun l H2 => th σ H2 fun u H3 => r x l u H3 Q
theorem pe_slice {r : V → Option Int → Option Int → Hp → VK → Prop} (hr : SlR X r) (he : PE X e te) (hl : PO X lo tl) (hu : PO X hi th) : PE X (.Subscript e (.Slice lo hi none p2) pos) (tSl r te tl th) := by
  intro pins s σ H Q I h
  refine Subscript_ (thn (he pins s σ H _ I h) fun v s1 ⟨x, H1, I1, r1, q1⟩ => ?_)
  refine wpAny_Slice (thn (hl pins s1 σ H1 _ I1 q1) fun vl s2 ⟨l, H2, I2, pl, q2⟩ => thn (hu pins s2 σ H2 _ I2 q2) fun vu s3 ⟨u, H3, I3, pu, q3⟩ => ?_)
  rw [evalPart_none]
  refine wpAny_pure ?_
  have I4 : Inv X pins σ H3 { s3 with heap := s3.heap.push { cls := .type "slice", data := .fields #[vl, vu, .none] } } := I3.kept (t' := s3.toks) fun b ob q => Heap.get?_push_of_some _ q
  obtain ⟨T, id, hT, ht, hg⟩ := hr pins { s3 with heap := s3.heap.push { cls := .type "slice", data := .fields #[vl, vu, .none] } } σ H3 x v vl vu l u s3.heap.objs.size Q I4 r1 (Heap.IsSliceOf.new ..) pl pu q3
  show wpAny (model X.prog X.w) X.A (subscriptTail e (.Slice lo hi none p2) v (.ref s3.heap.objs.size)) (EP X pins σ Q) X.xe { s3 with heap := s3.heap.push { cls := .type "slice", data := .fields #[vl, vu, .none] } }
  exact tail_any (ops := [.ref s3.heap.objs.size, v]) ht hT hg (by with_unfolding_all rfl)
def cutV (xs : List V) (lo hi : Option Int) : List V := (xs.drop (HT.sIx xs.length 0 lo)).take (HT.sIx xs.length xs.length hi - HT.sIx xs.length 0 lo)
theorem cutV_length (xs : List V) (lo hi : Option Int) : (cutV xs lo hi).length ≤ xs.length := by
  unfold cutV
  rw [List.length_take, List.length_drop]
  omega
end
end L2
namespace L2
open PySem PySem.Spec PyProof.Rows
def ixN (n : Nat) (i : Int) : Option Nat := if 0 ≤ i then (if i < n then some i.toNat else none) else if -(n : Int) ≤ i then some (i + n).toNat else none
def atI {α : Type} (xs : List α) (i : Int) : Option α := (ixN xs.length i).bind fun j => xs[j]?
theorem ixN_seq {n : Nat} {i : Int} {j : Nat} (h : ixN n i = some j) : seqIndex? i n = some j ∧ j < n ∧ -(n : Int) ≤ i ∧ i < n := by
  unfold ixN at h
  by_cases h0 : 0 ≤ i
  · rw [if_pos h0] at h
    by_cases h1 : i < n
    · rw [if_pos h1] at h
      have e : i.toNat = j := Option.some.inj h
      exact ⟨by rw [seqIndex_of h0 h1, e], by omega, by omega, h1⟩
    · rw [if_neg h1] at h; cases h
  · rw [if_neg h0] at h
    by_cases h1 : -(n : Int) ≤ i
    · rw [if_pos h1] at h
      have e : (i + n).toNat = j := Option.some.inj h
      exact ⟨by rw [seqIndex_neg (by omega) h1, e], by omega, h1, by omega⟩
    · rw [if_neg h1] at h; cases h
theorem atI_get {α : Type} {xs : List α} {i : Int} {v : α} (h : atI xs i = some v) : ∃ j, seqIndex? i xs.length = some j ∧ xs[j]? = some v ∧ j < xs.length ∧ -(xs.length : Int) ≤ i ∧ i < xs.length := by
  unfold atI at h
  cases e : ixN xs.length i with
  | none => rw [e] at h; cases h
  | some j =>
    rw [e] at h
    obtain ⟨h1, h2, h3, h4⟩ := ixN_seq e
    exact ⟨j, h1, h, h2, h3, h4⟩
theorem atI_nat {α : Type} {xs : List α} {j : Nat} {v : α} (h : xs[j]? = some v) : atI xs (j : Int) = some v := by
  have hj : j < xs.length := (List.getElem?_eq_some_iff.mp h).1
  have e : ixN xs.length (j : Int) = some j := by
    unfold ixN
    rw [if_pos (by omega), if_pos (by omega)]; simp
  unfold atI; rw [e]; exact h
def PlainIx (b : Expr) : Prop := ∀ o i, subscripted b false o i = operate [o, i] (getItem o i)
def IxR (X : Cx) (r : R2) : Prop :=
  ∀ (value slice : Expr) (pins : List (Addr × Obj)) (s : Shared) (σ : St) (H : Hp) (x y : V) (v u : Value) (Q : VK), Inv X pins σ H s → RelV x v → RelV y u → r x y H Q →
    subscripted slice false v u = operate [v, u] (getItem v u) → wpAny (model X.prog X.w) X.A (subscriptTail value slice v u) (EP X pins σ Q) X.xe s
def MtR (X : Cx) (id : String) (r : V → List V → Hp → VK → Prop) : Prop :=
  ∀ (pins : List (Addr × Obj)) (s : Shared) (σ : St) (H : Hp) (x : V) (xs : List V) (v : Value) (us : List Value) (Q : VK), Inv X pins σ H s → RelV x v → Vals xs us → r x xs H Q →
    wpAny (model X.prog X.w) X.A (call (.builtin id) (v :: us)) (EP X pins σ Q) X.xe s
section
variable {X : Cx} {a b : Expr} {ta tb : TE} {pos : Pos}
theorem pe_ix {r : R2} (hr : IxR X r) (ha : PE X a ta) (hb : PE X b tb) (hs : PlainIx b) : PE X (.Subscript a b pos) (tOp r ta tb) := by
  intro pins s σ H Q I h
  exact Subscript_ (binT ha hb I h fun v u s2 x y H2 I2 rx ry q => hr a b pins s2 σ H2 x y v u Q I2 rx ry q (hs _ _))
def rIxL (K : PySem.W.Frag) : R2 := fun x y H Q => ∃ p xs i v, x = .ref p ∧ y = .int i ∧ SqL K H p xs ∧ atI xs i = some v ∧ Q v H
def rIxT (K : PySem.W.Frag) : R2 := fun x y H Q => ∃ p xs i v, x = .ref p ∧ y = .int i ∧ SqT K H p xs ∧ atI xs i = some v ∧ Q v H
theorem ix_list : IxR X (rIxL X.K) := by
  intro value slice pins s σ H x y v u Q I rx ry h hs
  obtain ⟨p, xs, i, z, rfl, rfl, hq, he, q⟩ := h
  cases rx
  obtain ⟨t, rfl⟩ := ry
  obtain ⟨its, r, pl, hz⟩ := I.list hq
  obtain ⟨j, h1, h2, h3, h4, h5⟩ := atI_get he
  obtain ⟨w, ew, rw'⟩ := r.get h2
  have hl := r.length
  have hn := line63
  have fin : EP X pins σ Q w s := ⟨z, H, I, rw', q⟩
  by_cases h0 : 0 ≤ i
  · have hj : i.toNat = j := by
      rw [seqIndex_of h0 h5] at h1
      exact Option.some.inj h1
    exact item_listR pl.isList h0 (by omega) (by rw [hj]; simpa using ew) fin hs
  · have hj : (i + (its.toArray.size : Int)).toNat = j := by
      rw [seqIndex_neg (by omega) h4] at h1
      rw [List.size_toArray, ← hl]
      exact Option.some.inj h1
    exact subscriptTail_builtinR (x := w) pl.isList.typeIs slot_list_getitem.lookup
      (wpAny_getItem_list_neg (Q := fun r s' => r = w ∧ EP X pins σ Q r s') pl.isList (by omega) (by rw [List.size_toArray] <;> omega) (by omega) (by rw [hj]; simpa using ew) ⟨rfl, fin⟩) hs
theorem ix_tup : IxR X (rIxT X.K) := by
  intro value slice pins s σ H x y v u Q I rx ry h hs
  obtain ⟨p, xs, i, z, rfl, rfl, hq, he, q⟩ := h
  cases rx
  obtain ⟨t, rfl⟩ := ry
  obtain ⟨its, r, pl, hz⟩ := I.tuple hq
  obtain ⟨j, h1, h2, h3, h4, h5⟩ := atI_get he
  obtain ⟨w, ew, rw'⟩ := r.get h2
  have hl := r.length
  have hn := line63
  have fin : EP X pins σ Q w s := ⟨z, H, I, rw', q⟩
  exact subscriptTail_builtinR (x := w) pl.typeIs slot_tuple_getitem.lookup
    (getItem_tuple (j := j) (Q := fun r s' => r = w ∧ EP X pins σ Q r s') pl (by omega) (by omega) (by rw [List.size_toArray, ← hl]; exact h1) (by simpa using ew) ⟨rfl, fin⟩) hs
theorem slice_bounds (lo hi : Option Int) (n : Nat) : (sliceBounds lo hi none n).1 = ((HT.sIx n 0 lo : Nat) : Int) ∧ (sliceBounds lo hi none n).2.1 = ((HT.sIx n n hi : Nat) : Int) ∧ (sliceBounds lo hi none n).2.2 = 1 := by
  refine ⟨?_, ?_, rfl⟩
  · cases lo with
    | none => simp [sliceBounds, HT.sIx]
    | some i =>
      simp only [sliceBounds, HT.sIx, Option.getD_none, show (1 : Int) > 0 by decide, if_true]
      by_cases h : i < 0
      · simp only [h, if_true] <;> omega
      · simp only [h, if_false] <;> omega
  · cases hi with
    | none => simp [sliceBounds, HT.sIx]
    | some i =>
      simp only [sliceBounds, HT.sIx, Option.getD_none, show (1 : Int) > 0 by decide, if_true]
      by_cases h : i < 0
      · simp only [h, if_true] <;> omega
      · simp only [h, if_false] <;> omega
theorem slicePick_cut (its : List Value) (lo hi : Option Int) : slicePick its.toArray lo hi none = ((its.drop (HT.sIx its.length 0 lo)).take (HT.sIx its.length its.length hi - HT.sIx its.length 0 lo)).toArray := by
  obtain ⟨h1, h2, h3⟩ := slice_bounds lo hi its.toArray.size
  unfold slicePick
  rw [h1, h2, h3]
  simp only [sliceRange_one, pick_run, List.size_toArray] <;> rfl
def rSlL (K : PySem.W.Frag) : V → Option Int → Option Int → Hp → VK → Prop := fun x lo hi H Q => ∃ a xs, x = .ref a ∧ SqL K H a xs ∧ ∀ p, H p = none → Q (.ref p) (upd H p (.lst (cutV xs lo hi)))
theorem sl_list : SlR X (rSlL X.K) := by
  intro pins s σ H x v vl vu lo hi sl Q I rx hs pl pu h
  obtain ⟨a, xs, rfl, hx, q⟩ := h
  cases rx
  obtain ⟨its, r, ht, hz⟩ := I.list hx
  have hlen := r.length
  refine ⟨"list", _, slot_list_getitem.lookup, ht.isList.typeIs, ?_⟩
  refine wpAny_getItem_list_slice ht.isList hs pl pu .none (by simp) ?_ (by rw [List.size_toArray] <;> omega)
  rw [slicePick_cut, ← hlen]
  refine ⟨.ref s.heap.objs.size, _, I.laid (t' := s.toks) (o := .lst (cutV xs lo hi)) (fun b ob q => Heap.get?_push_of_some _ q) (Nat.le_refl _) ?_, rfl, q _ (I.hok.fresh (Nat.le_refl _))⟩
  exact ⟨Nat.le_trans (cutV_length xs lo hi) hz, _, 0, (r.drop (HT.sIx xs.length 0 lo)).take (HT.sIx xs.length xs.length hi - HT.sIx xs.length 0 lo), Heap.get?_push_size _ rfl⟩
theorem call_len_seq : CallR X (.builtin "len") (fun xs H Q => ∃ p ys, xs = [.ref p] ∧ (SqL X.K H p ys ∨ SqT X.K H p ys) ∧ Q (.int ys.length) H) := by
  intro pins s σ H xs us Q I r h
  obtain ⟨p, ys, rfl, hq, q⟩ := h
  obtain ⟨u, rfl, rx⟩ := vals1 r
  cases rx
  have hn := line63
  rcases hq with hq | hq
  · obtain ⟨its, r', pl, hz⟩ := I.list hq
    have hlen := r'.length
    exact Calls.call_len_list pl.isList (by simp only [List.size_toArray] <;> omega) ⟨.int ys.length, H, I.tok _, ⟨s.toks + 1, by rw [List.size_toArray, hlen]⟩, q⟩
  · obtain ⟨its, r', pl, hz⟩ := I.tuple hq
    have hlen := r'.length
    exact len_tuple pl (by simp only [List.size_toArray] <;> omega) ⟨.int ys.length, H, I.tok _, ⟨s.toks + 1, by rw [List.size_toArray, hlen]⟩, q⟩
theorem call_list_of : CallR X (.type "list") (fun xs H Q => ∃ p ys, xs = [.ref p] ∧ (SqL X.K H p ys ∨ SqT X.K H p ys) ∧ ∀ l, H l = none → Q (.ref l) (upd H l (.lst ys))) := by
  intro pins s σ H xs us Q I r h
  obtain ⟨p, ys, rfl, hq, q⟩ := h
  obtain ⟨u, rfl, rx⟩ := vals1 r
  cases rx
  have fin : ∀ (its : List Value), Vals ys its → ys.length ≤ sizeLine → ∀ (h' : Heap) (c' : Nat), (∀ b o', s.heap.get? b = some o' → h'.get? b = some o') →
      h'.get? s.heap.objs.size = some { cls := .type "list", dict := none, data := .seq its.toArray c', slots := #[] } → EP X pins σ Q (.ref s.heap.objs.size) { s with heap := h' } := fun its r' hz h' c' kp e =>
    ⟨.ref s.heap.objs.size, _, I.laid (t' := s.toks) kp (Nat.le_refl _) (show ObjOk X.prog X.w _ h' _ (.lst ys) from ⟨hz, its, c', r', e⟩), rfl, q _ (I.hok.fresh (Nat.le_refl _))⟩
  rcases hq with hq | hq
  · obtain ⟨its, r', pl, hz⟩ := I.list hq
    have hlen := r'.length
    obtain ⟨o, ho, hc, n, hd⟩ := pl.isList
    exact call_list_seq p (.inl rfl) ho hc hd (fun h' c' kp e => fin its r' hz h' c' kp e) (by simp only [List.size_toArray] <;> omega)
  · obtain ⟨its, r', pl, hz⟩ := I.tuple hq
    have hlen := r'.length
    obtain ⟨o, ho, hc, n, hd⟩ := pl
    exact call_list_seq p (.inr rfl) ho hc hd (fun h' c' kp e => fin its r' hz h' c' kp e) (by simp only [List.size_toArray] <;> omega)
def tyV (K : PySem.W.Frag) (T : String) (x : V) (H : Hp) : Prop := match x with
  | .str _ => T = "str"
  | .int _ => T = "int"
  | .ref p => (T = "list" ∧ ∃ xs, SqL K H p xs) ∨ (T = "tuple" ∧ ∃ o, K.lookup p = some o ∧ o.cls = .type "tuple" ∧ o.dict = none) ∨
      (T = "dict" ∧ ((∃ kvs, H p = some (.dK kvs)) ∨ ∃ kvs, H p = some (.dT kvs))) ∨ (T = "set" ∧ ∃ S n, H p = some (.set S n))
  | _ => False
theorem tyV_is {pins : List (Addr × Obj)} {σ : St} {H : Hp} {s : Shared} {T : String} {x : V} {v : Value} (I : Inv X pins σ H s) (r : RelV x v) (ty : tyV X.K T x H) :
    s.TypeIs v T ∧ ∀ a, v = .ref a → ∃ ob, s.heap.get? a = some ob ∧ ob.dict = none := by
  cases x with
  | str z =>
    obtain ⟨t, rfl⟩ := r
    cases (show T = "str" from ty)
    exact ⟨typeIs_str s z t, fun _ e => nomatch e⟩
  | int i =>
    obtain ⟨t, rfl⟩ := r
    cases (show T = "int" from ty)
    exact ⟨typeIs_int s i t, fun _ e => nomatch e⟩
  | ref p =>
    cases r
    rcases ty with ⟨rfl, xs, hq⟩ | ⟨rfl, o, hk, hc, hd⟩ | ⟨rfl, hk⟩ | ⟨rfl, S, n, hk⟩
    · obtain ⟨its, _, pl, _⟩ := I.list hq
      refine ⟨pl.isList.typeIs, fun a e => ?_⟩
      cases e
      obtain ⟨o, n, e, c, hd, _⟩ := pl
      exact ⟨o, e, hd⟩
    · refine ⟨⟨o, I.kIn p o hk, hc⟩, fun a e => ?_⟩
      cases e
      exact ⟨o, I.kIn _ o hk, hd⟩
    · have z : ∃ o, s.heap.get? p = some o ∧ o.ExactDict := by
        rcases hk with ⟨kvs, hk⟩ | ⟨kvs, hk⟩
        · obtain ⟨_, _, _, _, o, _, _, e, ex, _⟩ := I.hok p _ hk
          exact ⟨o, e, ex⟩
        · obtain ⟨_, _, _, _, o, _, _, e, ex, _⟩ := I.hok p _ hk
          exact ⟨o, e, ex⟩
      obtain ⟨o, e, ex⟩ := z
      refine ⟨⟨o, e, ex.1⟩, fun a e2 => ?_⟩
      cases e2
      exact ⟨o, e, ex.2.1⟩
    · obtain ⟨o, _, _, _, e, ex, _⟩ := I.hok p _ hk
      refine ⟨⟨o, e, ex.1⟩, fun a e2 => ?_⟩
      cases e2
      exact ⟨o, e, ex.2.1⟩
  | _ => exact False.elim ty
def tBM0 (K : PySem.W.Frag) (T : String) (r : V → List V → Hp → VK → Prop) (to : TE) : TE := fun σ H Q => to σ H fun x H1 => tyV K T x H1 ∧ r x [] H1 Q
def tBM (K : PySem.W.Frag) (T : String) (r : V → List V → Hp → VK → Prop) (to : TE) (t : TA) : TE := fun σ H Q => to σ H fun x H1 => tyV K T x H1 ∧ t σ H1 fun xs H2 => r x xs H2 Q
variable {o e : Expr} {es : List Expr} {to : TE} {t : TA} {name : Str} {apos cpos : Pos} {T id : String} {r : V → List V → Hp → VK → Prop}
theorem pe_bm0 (pa : PlainAttrs T) (slot : Slot T name id) (hty : typeOf (.builtin id) = pure (.type "method_descriptor")) (hm : MtR X id r) (ho : PE X o to)
    (hbase : attributeBase o name X.env (eval o X.env) = eval o X.env := by rfl) (hline : (apos.endLine == cpos.line) = true := by rfl) : PE X (.Call (.Attribute o name apos) [] [] cpos) (tBM0 X.K T r to) := by
  intro pins s σ H Q I h
  refine wpAny_Call_method0_late hbase hline (thn (ho pins s σ H _ I h) fun v s1 ⟨x, H1, I1, r1, ty, q1⟩ => ?_)
  obtain ⟨h1, h2⟩ := tyV_is I1 r1 ty
  exact ⟨T, id, pa, slot, hty, h1, h2, Calls.callWith_builtin rfl (PySem.evalArgs_none (hm pins s1 σ H1 x [] v [] Q I1 r1 .nil q1))⟩
theorem pe_bm (pa : PlainAttrs T) (slot : Slot T name id) (hty : typeOf (.builtin id) = pure (.type "method_descriptor")) (hm : MtR X id r) (ho : PE X o to) (ha : PA X (e :: es) t)
    (hbase : attributeBase o name X.env (eval o X.env) = eval o X.env := by rfl)
    (hfew : ((backTo cpos (starEach (e :: es) X.env)).all (fun x => !x.1) && (backToKw cpos (keywordEach [] X.env)).all (fun x => x.1.isSome)
      && decide ((e :: es).length + ([] : List Keyword).length + (if ([] : List Keyword).isEmpty then 0 else 1) < 30)) = true := by rfl)
    (hline : (apos.endLine == cpos.line) = true := by rfl) (hs : starEach (e :: es) X.env = (false, eval e X.env) :: starEach es X.env := by rfl) (hplain : (backTo cpos (starEach es X.env)).any (·.1) = false := by rfl) :
    PE X (.Call (.Attribute o name apos) (e :: es) [] cpos) (tBM X.K T r to t) := by
  intro pins s σ H Q I h
  refine wpAny_Call_method_late hbase hfew hline rfl (thn (ho pins s σ H _ I h) fun v s1 ⟨x, H1, I1, r1, ty, q1⟩ => ?_)
  obtain ⟨h1, h2⟩ := tyV_is I1 r1 ty
  refine ⟨T, id, pa, slot, hty, h1, h2, ?_⟩
  have hA := ha cpos pins s1 σ H1 _ I1 q1
  rw [hs] at hA ⊢
  refine Calls.callWith_builtin (by show (false || (backTo cpos (starEach es X.env)).any (·.1)) = false; rw [hplain] <;> rfl) (Calls.evalArgs_plain ?_)
  exact thn hA fun us s2 ⟨vs, H2, I2, r2, q2⟩ => hm pins s2 σ H2 x vs v us Q I2 r1 r2 q2
end
end L2
namespace L2
open PySem PySem.Spec PyProof.Rows
def MtM (X : Cx) (id : String) (r : V → List V → Hp → VK → Prop) : Prop :=
  ∀ (pins : List (Addr × Obj)) (s : Shared) (σ : St) (H : Hp) (x : V) (xs : List V) (v : Value) (us : List Value) (Q : VK), Inv X pins σ H s → RelV x v → Vals xs us → r x xs H Q →
    wpAny (model X.prog X.w) X.A (call (.builtin id) (v :: us)) (EP X pins σ Q) X.xe s
theorem Vals.one : ∀ {x : V} {us : List Value}, Vals [x] us → ∃ u, us = [u] ∧ RelV x u
  | _, _, .cons r .nil => ⟨_, rfl, r⟩
section
variable {X : Cx} {pins : List (Addr × Obj)} {σ : St} {H : Hp} {s : Shared} {l b : Addr} {xs ys zs : List V}
theorem Inv.lset {its its' : List Value} {n : Nat} {f : Array Value → Array Value} {t' : Nat} (I : Inv X pins σ H s) (hH : H l = some (.lst xs))
    (e : s.heap.get? l = some { cls := .type "list", data := .seq its.toArray n }) (hf : f its.toArray = its'.toArray) (hv : Vals ys its') (hz : ys.length ≤ sizeLine) :
    Inv X pins σ (upd H l (.lst ys)) { s with heap := s.heap.update l (Obj.mapSeq f), toks := t' } := by
  have q := PySem.IsL.update e f
  rw [hf] at q
  refine I.write (x := l) (e := l) (by rw [hH]; exact trivial) (.inl rfl) (fun b' u hb hu => (Heap.get?_update_other s.heap (Obj.mapSeq f) (Ne.symm hb)).trans hu) ⟨_, q⟩ ?_
  exact ⟨hz, its', _, hv, q⟩
theorem Inv.lnew {its : List Value} {t' : Nat} (I : Inv X pins σ H s) (hv : Vals ys its) (hz : ys.length ≤ sizeLine) :
    Inv X pins σ (upd H s.heap.objs.size (.lst ys)) { s with heap := s.heap.push { cls := .type "list", data := .seq its.toArray }, toks := t' } :=
  I.laid (fun _ _ q => Heap.get?_push_of_some _ q) (Nat.le_refl _) ⟨hz, its, 0, hv, Heap.get?_push_size _ rfl⟩
theorem Inv.fresh (I : Inv X pins σ H s) : H s.heap.objs.size = none := I.hok.fresh (Nat.le_refl _)
theorem Inv.lstM (I : Inv X pins σ H s) (hH : H l = some (.lst xs)) : xs.length ≤ sizeLine ∧ ∃ (its : List Value) (n : Nat), Vals xs its ∧ xs.length = its.length ∧ s.heap.get? l = some { cls := .type "list", data := .seq its.toArray n } := by
  obtain ⟨z, its, n, r, e⟩ := I.hok l _ hH
  exact ⟨z, its, n, r, r.length, e⟩
end
section
variable {X : Cx}
def rAppend : V → List V → Hp → VK → Prop := fun x vs H Q => ∃ l xs y, x = .ref l ∧ vs = [y] ∧ H l = some (.lst xs) ∧ xs.length < sizeLine ∧ Q .non (upd H l (.lst (xs ++ [y])))
theorem mt_append : MtM X "list.append" rAppend := by
  intro pins s σ H x vs v us Q I rx rv h
  obtain ⟨l, xs, y, rfl, rfl, hH, hz, q⟩ := h
  cases rx
  obtain ⟨u, rfl, ru⟩ := rv.one
  obtain ⟨z, its, n, r, hl, e⟩ := I.lstM hH
  refine call_meets F.slot_list_append ⟨_, e, rfl⟩ F.entry_list_append (F.args_list_append_2 _ _) (PySem.list_append l its.toArray n u (by rw [List.size_toArray]; omega)) ⟨e, ?_⟩
  refine ⟨.non, _, I.lset (its' := its ++ [u]) hH e (by simp) (r.append (.cons ru .nil)) ?_, rfl, q⟩
  rw [List.length_append, List.length_singleton]
  omega
def rCat : R2 := fun x y H Q => ∃ l b xs zs, x = .ref l ∧ y = .ref b ∧ H l = some (.lst xs) ∧ H b = some (.lst zs) ∧ xs.length + zs.length ≤ sizeLine ∧ ∀ p, H p = none → Q (.ref p) (upd H p (.lst (xs ++ zs)))
theorem op_cat : OpR X (binaryOp .Add) rCat := by
  intro pins s σ H x y v u Q I rx ry h
  obtain ⟨l, b, xs, zs, rfl, rfl, hH, hB, hz, q⟩ := h
  cases rx
  cases ry
  obtain ⟨z, its, n, r, hl, e⟩ := I.lstM hH
  obtain ⟨z2, its2, n2, r2, hl2, e2⟩ := I.lstM hB
  refine PySem.P.add_list e e2 ?_ (by rw [List.size_toArray, List.size_toArray]; omega)
  have ea : its.toArray ++ its2.toArray = (its ++ its2).toArray := by simp
  rw [ea]
  exact ⟨.ref _, _, I.lnew (t' := s.toks) (r.append r2) (by rw [List.length_append]; omega), rfl, q _ I.fresh⟩
end
section
variable {prog : Program} {w : World} {A : Around} {E : Value → Shared → Prop} {s : Shared}
end
section
variable {X : Cx}
end
end L2
namespace L2
open PySem PySem.Spec PyProof.Rows
theorem Vals.ints : ∀ {ns : List Int} {us : List Value}, Vals (ns.map V.int) us → IntsAre us ns
  | [], us, h => by
    rw [List.map_nil] at h
    cases h
    exact IntsAre.nil
  | n :: ns, us, h => by
    rw [List.map_cons] at h
    cases h with
    | cons r t =>
      obtain ⟨k, rfl⟩ := r
      exact IntsAre.cons n k (Vals.ints t)
theorem Vals.bls : ∀ {bs : List Bool} {us : List Value}, Vals (bs.map V.bl) us → us = bs.map Value.bool
  | [], us, h => by
    rw [List.map_nil] at h
    cases h
    rfl
  | b :: bs, us, h => by
    rw [List.map_cons] at h
    cases h with
    | cons r t =>
      cases r
      rw [Vals.bls t, List.map_cons]
theorem Vals.ref1 {a : Addr} {us : List Value} (r : Vals [V.ref a] us) : us = [Value.ref a] := by
  cases r with
  | cons r t =>
    cases t
    cases r
    rfl
section
variable {prog : Program} {w : World} {A : Around} {E : Value → Shared → Prop} {s : Shared} {l : Addr} {its : List Value} {ns : List Int} {Q : Value → Shared → Prop}
theorem sum_raw (hh : A.handled = none) (hl : s.heap.IsList l its.toArray) (hi : IntsAre its ns)
    (h : ∀ h' tk t', (∀ b o, s.heap.get? b = some o → h'.get? b = some o) → Q (.int ns.sum t') { s with heap := h', toks := tk }) : wpAny (model prog w) A (call (.builtin "sum") [.ref l]) Q E s := by
  obtain ⟨xs, e⟩ := hi.allInts.items
  have hn : numsOf (intItems xs).toList = ns := by rw [← e]; exact hi.numsOf
  rw [nums_intItems] at hn
  rw [e] at hl
  refine PySem.sum_intListG hh hl fun h' tk t' hk => ?_
  have := h h' tk t' hk
  rw [preSum_eq, List.take_of_length_le (by simp), hn]; exact this
end
section
variable {X : Cx}
def rSum (K : PySem.W.Frag) : List V → Hp → VK → Prop := fun vs H Q => ∃ (a : Addr) (ns : List Int), vs = [V.ref a] ∧ SqL K H a (ns.map V.int) ∧ Q (.int ns.sum) H
theorem cr_sum (hc : X.calm = true) : CallR X (.builtin "sum") (rSum X.K) := by
  intro pins s σ H vs us Q I r h
  obtain ⟨a, ns, rfl, hs, q⟩ := h
  obtain ⟨its, rv, hl, _⟩ := I.list hs
  rw [Vals.ref1 r]
  exact sum_raw (I.ok.hd hc) hl.isList rv.ints fun h' tk t' hk => ⟨.int _, H, I.kept hk, ⟨_, rfl⟩, q⟩
end
section
variable {X : Cx}
end
section
variable {X : Cx}
end
theorem iter_any {prog : Program} {w : World} {A : Around} {E : Value → Shared → Prop} {s : Shared} {l : Addr} {items : Array Value} {Q : Value → Shared → Prop} (hl : s.heap.IsList l items)
    (h : ∀ s₂ : Shared, s₂ = { s with heap := s.heap.push { cls := .type "list_iterator", data := .fields #[.ref l, .int 0 0] } } →
      (s₂.heap.IsListIter s.heap.objs.size l 0 ∧ s₂.heap.IsList l items) → l ≠ s.heap.objs.size → Q (.ref s.heap.objs.size) s₂) : wpAny (model prog w) A (pyIter (.ref l)) Q E s := by
  have hlt : l < s.heap.objs.size := by obtain ⟨_, e, _⟩ := hl; exact Heap.lt_size e
  exact wpAny_pyIter_list hl (h _ rfl ⟨⟨_, Heap.get?_push_size _ rfl, rfl, rfl⟩, hl.push _⟩ (Nat.ne_of_lt hlt))
theorem truth_bools {prog : Program} {w : World} {A : Around} {bs : List Bool} {its : List Value} (e : its = bs.map Value.bool) :
    TruthOf prog w A (fun i v => its.toArray[i]? = some v) (fun i => bs.getD i false) := fun i v s Q E hv hq => by
  have hv' : its[i]? = some v := by simpa using hv
  rw [e, List.getElem?_map] at hv'
  obtain ⟨b, hb, rfl⟩ := Option.map_eq_some_iff.mp hv'
  have hg : bs.getD i false = b := by rw [List.getD_eq_getElem?_getD, hb] <;> rfl
  have hq' : Q (bs.getD i false) s := hq
  rw [hg] at hq'
  exact wpAny_truthy_bool hq'
theorem all_range : ∀ bs : List Bool, (List.range bs.length).all (fun i => bs.getD i false) = bs.all id
  | [] => rfl
  | b :: bs => by
    rw [List.length_cons, List.range_succ_eq_map, List.all_cons, List.all_map, List.all_cons, ← all_range bs]
    all_goals rfl
section
variable {X : Cx}
def rAll (K : PySem.W.Frag) : List V → Hp → VK → Prop := fun vs H Q => ∃ (a : Addr) (bs : List Bool), vs = [V.ref a] ∧ SqL K H a (bs.map V.bl) ∧ Q (.bl (bs.all id)) H
theorem cr_all (hc : X.calm = true) : CallR X (.builtin "all") (rAll X.K) := by
  intro pins s σ H vs us Q I r h
  obtain ⟨a, bs, rfl, hs, q⟩ := h
  obtain ⟨its, rv, hl, _⟩ := I.list hs
  rw [Vals.ref1 r]
  have hb := rv.bls
  refine call_all_walk (iter_any hl.isList fun s₂ e2 st hne => ?_)
  subst e2
  refine ⟨_, _, _, _, _, _, _, rfl, Walks.list (A := X.A.in1) (I.ok.hd hc) _ a hne its.toArray, st, truth_bools hb, fun h' tk hk => ?_⟩
  refine ⟨.bl _, H, I.kept fun b o eo => hk b o (fun hmem => ?_) (Heap.get?_push_of_some _ eo), ?_, q⟩
  · rcases List.mem_cons.mp hmem with e1 | hmem
    · exact absurd (e1 ▸ Heap.lt_size eo) (Nat.lt_irrefl _)
    · cases hmem
  · show Value.bool _ = Value.bool _
    rw [← all_range, hb, List.size_toArray, List.length_map]
end
mutual
inductive Dp (K : PySem.W.Frag) (H : Hp) : V → PyData → Prop
  | non : Dp K H .non .none
  | bl (b : Bool) : Dp K H (.bl b) (.bool b)
  | int (i : Int) : Dp K H (.int i) (.int i)
  | str (x : Str) : Dp K H (.str x) (.str x)
  | lst {a : Addr} {xs : List V} {ds : List PyData} : SqL K H a xs → DpAll K H xs ds → Dp K H (.ref a) (.list ds)
  | tup {a : Addr} {xs : List V} {ds : List PyData} : SqT K H a xs → DpAll K H xs ds → Dp K H (.ref a) (.tuple ds)
inductive DpAll (K : PySem.W.Frag) (H : Hp) : List V → List PyData → Prop
  | nil : DpAll K H [] []
  | cons {v : V} {vs : List V} {d : PyData} {ds : List PyData} : Dp K H v d → DpAll K H vs ds → DpAll K H (v :: vs) (d :: ds)
end
section
variable {X : Cx} {pins : List (Addr × Obj)} {σ : St} {H : Hp} {s : Shared}
mutual
theorem Dp.reads (I : Inv X pins σ H s) : ∀ (d : PyData) (v : V) (u : Value), Dp X.K H v d → RelV v u → ∃ as, Reads s.heap u d as
  | .none, _, _, h, r => by
    cases h
    cases r
    exact ⟨_, Reads.none⟩
  | .bool b, _, _, h, r => by
    cases h
    cases r
    exact ⟨_, Reads.bool b⟩
  | .int i, _, _, h, r => by
    cases h
    obtain ⟨t, rfl⟩ := r
    exact ⟨_, Reads.int i t⟩
  | .str x, _, _, h, r => by
    cases h
    obtain ⟨t, rfl⟩ := r
    exact ⟨_, Reads.str x t⟩
  | .list ds, _, _, h, r => by
    cases h with
    | lst hs ha =>
      cases r
      obtain ⟨its, rv, ⟨o, n, ho, hc, _, hd⟩, _⟩ := I.list hs
      obtain ⟨as, hr⟩ := Dp.readsAll I ds _ its ha rv
      exact ⟨_, Reads.list ho hc hd hr⟩
  | .tuple ds, _, _, h, r => by
    cases h with
    | tup hs ha =>
      cases r
      obtain ⟨its, rv, ⟨o, ho, hc, n, hd⟩, _⟩ := I.tuple hs
      obtain ⟨as, hr⟩ := Dp.readsAll I ds _ its ha rv
      exact ⟨_, Reads.tuple ho hc hd hr⟩
  | .dict _, _, _, h, _ => by cases h
theorem Dp.readsAll (I : Inv X pins σ H s) : ∀ (ds : List PyData) (vs : List V) (us : List Value), DpAll X.K H vs ds → Vals vs us → ∃ as, ReadsAll s.heap us ds as
  | [], _, _, h, r => by
    cases h
    cases r
    exact ⟨_, ReadsAll.nil⟩
  | d :: ds, _, _, h, r => by
    cases h with
    | cons h1 h2 =>
      cases r with
      | cons r1 r2 =>
        obtain ⟨as, q1⟩ := Dp.reads I d _ _ h1 r1
        obtain ⟨bs, q2⟩ := Dp.readsAll I ds _ _ h2 r2
        exact ⟨_, ReadsAll.cons q1 q2⟩
end
end
section
variable {X : Cx}
end
end L2
namespace L2
open PySem PySem.Spec PyProof.Rows
abbrev CellAt (h : Heap) (c : Addr) (v : Option Value) : Prop := h.IsCell c v
def relS (scope sc : Scope) : Scope :=
  { scope with names := scope.names.map fun (n, k) => if (k == .free && sc.kind == .function && sc.names.lookup n == some .cell) then (n, .cell) else (n, k) }
def cloFrom (cells : List (Str × Addr)) : List (Str × NameKind) → List (Str × Addr) → List (Str × Addr)
  | [], acc => acc
  | (n, k) :: r, acc => if k == .free then cloFrom cells r ((n, (cells.lookup n).getD 0) :: acc) else cloFrom cells r acc
theorem closure_loop (env : Env) (f : Str × NameKind → List (Str × Addr) → Sem (ForInStep (List (Str × Addr))))
    (hf : ∀ n k c, f (n, k) c = if k == .free then (do let a ← cellOf env n; pure (.yield ((n, a) :: c))) else pure (.yield c)) :
    ∀ (names : List (Str × NameKind)) (acc : List (Str × Addr)), (∀ y ∈ names, y.2 = .free → ∃ c, env.cells.lookup y.1 = some c) → forIn names acc f = pure (cloFrom env.cells names acc)
  | [], acc, _ => by rw [List.forIn_nil]; rfl
  | (n, k) :: r, acc, h => by
    rw [List.forIn_cons, hf]
    have ih := fun acc => closure_loop env f hf r acc fun y hy => h y (List.mem_cons_of_mem _ hy)
    unfold cloFrom
    by_cases hk : (k == NameKind.free) = true
    · rw [if_pos hk, if_pos hk]
      obtain ⟨c, hc⟩ := h (n, k) List.mem_cons_self (by simpa using hk)
      have e : cellOf env n = pure c := by unfold cellOf; rw [hc]
      rw [e]
      have e2 : (env.cells.lookup n).getD 0 = c := by rw [hc]; rfl
      rw [e2]
      exact ih _
    · rw [if_neg hk, if_neg hk]
      exact ih _
theorem closure_ok {scope : Scope} {env : Env} (h : ∀ y ∈ scope.names, y.2 = .free → ∃ c, env.cells.lookup y.1 = some c) : closureFor scope env = pure (cloFrom env.cells scope.names []) := by
  simp only [closureFor]
  rw [closure_loop env _ (fun n k c => rfl) scope.names [] h]
  rfl
theorem mem_lookup {α : Type} : ∀ {l : List (Str × α)} {n : Str} {c : α}, (n, c) ∈ l → ∃ c', l.lookup n = some c'
  | (k, v) :: r, n, c, h => by
    rw [List.lookup_cons]
    cases hb : n == k with
    | true => exact ⟨_, rfl⟩
    | false =>
      rcases List.mem_cons.mp h with e | h
      · cases e; simp at hb
      · exact mem_lookup h
theorem cloFrom_mem {cells : List (Str × Addr)} : ∀ {names : List (Str × NameKind)} {acc : List (Str × Addr)} {n : Str} {c : Addr}, (n, c) ∈ cloFrom cells names acc → (n, c) ∈ acc ∨ ((n, .free) ∈ names ∧ c = (cells.lookup n).getD 0)
  | [], _, _, _, h => .inl h
  | (m, k) :: r, acc, n, c, h => by
    unfold cloFrom at h
    split at h
    · rename_i hk
      have hk : k = .free := by simpa using hk
      rcases cloFrom_mem h with h | ⟨h1, h2⟩
      · rcases List.mem_cons.mp h with e | h
        · cases e; exact .inr ⟨hk ▸ List.mem_cons_self, rfl⟩
        · exact .inl h
      · exact .inr ⟨List.mem_cons_of_mem _ h1, h2⟩
    · rcases cloFrom_mem h with h | ⟨h1, h2⟩
      · exact .inl h
      · exact .inr ⟨List.mem_cons_of_mem _ h1, h2⟩
theorem cloFrom_acc {cells : List (Str × Addr)} : ∀ {names : List (Str × NameKind)} {acc : List (Str × Addr)} {p : Str × Addr}, p ∈ acc → p ∈ cloFrom cells names acc
  | [], _, _, h => h
  | (m, k) :: r, acc, p, h => by
    unfold cloFrom
    split
    · exact cloFrom_acc (List.mem_cons_of_mem _ h)
    · exact cloFrom_acc h
theorem cloFrom_has {cells : List (Str × Addr)} : ∀ {names : List (Str × NameKind)} {acc : List (Str × Addr)} {n : Str}, (n, .free) ∈ names → (n, (cells.lookup n).getD 0) ∈ cloFrom cells names acc
  | (m, k) :: r, acc, n, h => by
    unfold cloFrom
    rcases List.mem_cons.mp h with e | h
    · cases e
      exact cloFrom_acc List.mem_cons_self
    · split
      · exact cloFrom_has h
      · exact cloFrom_has h
theorem cells_mem : ∀ {names : List (Str × NameKind)} {h : Heap} {acc : List (Str × Addr)} {x : Str} {c : Addr}, (x, c) ∈ cellsFrom h.objs.size names acc →
    (x, c) ∈ acc ∨ ((x, .cell) ∈ names ∧ h.objs.size ≤ c ∧ CellAt (pushCells h names) c none)
  | [], _, _, _, _, h => .inl h
  | (n, k) :: r, h, acc, x, c, hm => by
    unfold cellsFrom at hm
    unfold pushCells
    split at hm
    · rename_i hk
      rw [if_pos hk]
      have hk : k = .cell := by simpa using hk
      rw [← Heap.size_push h { cls := .type "cell", data := .cell none }] at hm
      rcases cells_mem hm with hm | ⟨h1, h2, h3⟩
      · rcases List.mem_cons.mp hm with e | hm
        · cases e
          exact .inr ⟨hk ▸ List.mem_cons_self, Nat.le_refl _, _, pushCells_keeps r _ _ _ (Heap.get?_push_size _ rfl), rfl⟩
        · exact .inl hm
      · rw [Heap.size_push] at h2
        exact .inr ⟨List.mem_cons_of_mem _ h1, Nat.le_of_succ_le h2, h3⟩
    · rename_i hk
      rw [if_neg hk]
      rcases cells_mem hm with hm | ⟨h1, h2, h3⟩
      · exact .inl hm
      · exact .inr ⟨List.mem_cons_of_mem _ h1, h2, h3⟩
theorem cells_acc : ∀ {names : List (Str × NameKind)} {n : Nat} {acc : List (Str × Addr)} {p : Str × Addr}, p ∈ acc → p ∈ cellsFrom n names acc
  | [], _, _, _, h => h
  | (m, k) :: r, n, acc, p, h => by
    unfold cellsFrom
    split
    · exact cells_acc (List.mem_cons_of_mem _ h)
    · exact cells_acc h
theorem cells_has : ∀ {names : List (Str × NameKind)} {n : Nat} {acc : List (Str × Addr)} {x : Str}, (x, .cell) ∈ names → ∃ c, (x, c) ∈ cellsFrom n names acc
  | (m, k) :: r, n, acc, x, h => by
    unfold cellsFrom
    rcases List.mem_cons.mp h with e | h
    · cases e
      exact ⟨n, cells_acc List.mem_cons_self⟩
    · split
      · exact cells_has h
      · exact cells_has h
theorem cells_inj : ∀ {names : List (Str × NameKind)} {h : Heap} {acc : List (Str × Addr)} {x y : Str} {c : Addr}, (∀ p ∈ acc, p.2 < h.objs.size) → (∀ x y c, (x, c) ∈ acc → (y, c) ∈ acc → x = y) →
    (x, c) ∈ cellsFrom h.objs.size names acc → (y, c) ∈ cellsFrom h.objs.size names acc → x = y
  | [], _, _, _, _, _, _, hi, h1, h2 => hi _ _ _ h1 h2
  | (n, k) :: r, h, acc, x, y, c, hl, hi, h1, h2 => by
    unfold cellsFrom at h1 h2
    split at h1
    · rename_i hk
      rw [if_pos hk] at h2
      rw [← Heap.size_push h { cls := .type "cell", data := .cell none }] at h1 h2
      refine cells_inj (h := h.push _) (fun p hp => ?_) (fun x y c a b => ?_) h1 h2
      · rw [Heap.size_push]
        rcases List.mem_cons.mp hp with rfl | hp
        · exact Nat.lt_succ_self _
        · exact Nat.lt_succ_of_lt (hl p hp)
      · rcases List.mem_cons.mp a with e | a <;> rcases List.mem_cons.mp b with e' | b
        · cases e; cases e'; rfl
        · cases e; exact absurd (hl _ b) (Nat.lt_irrefl _)
        · cases e'; exact absurd (hl _ a) (Nat.lt_irrefl _)
        · exact hi _ _ _ a b
    · rename_i hk
      rw [if_neg hk] at h2
      exact cells_inj hl hi h1 h2
theorem newEnv_comp {M : Model} {A : Around} {E : Value → Shared → Prop} {s : Shared} {scope : Scope} {globals : Addr} {closure : List (Str × Addr)} {qual : Str} {func : Option Addr} {code : Value} {around : Env} {builtins : Addr} {Q : Env → Shared → Prop}
    (h : Q (newEnv scope s.heap.objs.size globals (cellsFrom (s.heap.objs.size + 1) scope.names closure) qual func code (some around) builtins)
      { s with heap := pushCells (s.heap.push { cls := .type "dict", data := .dict #[] }) scope.names }) :
    wpAny M A (newFunctionEnv scope globals closure [] qual func code (some around) builtins) Q E s := by
  simp only [newFunctionEnv, Option.isSome_some, if_true]
  refine wpAny_bind (wpAny_alloc ?_)
  refine wpAny_bind (wpAny_layCells _ (fun n k c => rfl) scope.names closure _ _ ?_)
  rw [show ({ s with heap := s.heap.push { cls := .type "dict", data := .dict #[] } } : Shared).heap.objs.size = s.heap.objs.size + 1 from Heap.size_push ..]
  rw [List.forIn_nil]
  exact wpAny_bind (wpAny_pure (wpAny_pure h))
theorem lookup_relS {sc : Scope} : ∀ {names : List (Str × NameKind)} {x : Str} {k : NameKind},
    (names.map fun (n, k) => if (k == NameKind.free && sc.kind == .function && sc.names.lookup n == some .cell) then (n, NameKind.cell) else (n, k)).lookup x = some k →
    ∃ k', names.lookup x = some k' ∧ (k = k' ∨ (k' = .free ∧ k = .cell))
  | [], _, _, h => by simp at h
  | (n, k₀) :: r, x, k, h => by
    have ih := @lookup_relS sc r x k
    have h' : List.lookup x ((if (k₀ == NameKind.free && sc.kind == .function && sc.names.lookup n == some .cell) = true then (n, NameKind.cell) else (n, k₀)) :: (r.map _)) = some k := h
    cases hx : x == n with
    | true =>
      simp only [List.lookup_cons, hx]
      by_cases hc : (k₀ == NameKind.free && sc.kind == .function && sc.names.lookup n == some .cell) = true
      · rw [if_pos hc] at h'
        simp only [List.lookup_cons, hx] at h'
        cases h'
        simp only [Bool.and_eq_true, beq_iff_eq] at hc
        exact ⟨k₀, rfl, .inr ⟨hc.1.1, rfl⟩⟩
      · rw [if_neg hc] at h'
        simp only [List.lookup_cons, hx] at h'
        cases h'
        exact ⟨_, rfl, .inl rfl⟩
    | false =>
      simp only [List.lookup_cons, hx]
      by_cases hc : (k₀ == NameKind.free && sc.kind == .function && sc.names.lookup n == some .cell) = true
      · rw [if_pos hc] at h'
        simp only [List.lookup_cons, hx] at h'
        exact ih h'
      · rw [if_neg hc] at h'
        simp only [List.lookup_cons, hx] at h'
        exact ih h'
structure BlkOk (N : List Str) (sc scope : Scope) (own : List (Str × Nat)) : Prop where
  kind : scope.kind = .function
  uniq : ∀ y ∈ scope.names, scope.names.lookup y.1 = some y.2
  ix : ∀ p ∈ own, N[p.2]? = some p.1
  free : ∀ y ∈ scope.names, y.2 = .free → sc.names.lookup y.1 = some .cell ∨ sc.names.lookup y.1 = some .free
  own : ∀ y ∈ scope.names, y.2 = .local ∨ y.2 = .cell → y.1 ∈ own.map (·.1) ∨ y.1 ∉ N
def wipe (σ : St) : List Nat → St
  | [] => σ
  | v :: vs => (wipe σ vs).set v none
theorem wipe_length (σ : St) : ∀ vs : List Nat, (wipe σ vs).length = σ.length
  | [] => rfl
  | v :: vs => by unfold wipe; rw [List.length_set, wipe_length σ vs]
theorem wipe_some {σ : St} {i : Nat} {x : V} : ∀ {vs : List Nat}, (wipe σ vs)[i]? = some (some x) → σ[i]? = some (some x) ∧ i ∉ vs
  | [], h => ⟨h, by simp⟩
  | v :: vs, h => by
    unfold wipe at h
    by_cases hi : v = i
    · subst hi
      by_cases hv : v < (wipe σ vs).length
      · rw [List.getElem?_set_self hv] at h; cases h
      · rw [List.getElem?_eq_none (by simpa using hv)] at h; cases h
    · rw [List.getElem?_set_ne hi] at h
      obtain ⟨h1, h2⟩ := wipe_some h
      exact ⟨h1, by simp only [List.mem_cons, not_or]; exact ⟨fun e => hi e.symm, h2⟩⟩
abbrev Cx.blk (X : Cx) (s : Shared) (H : Hp) (scope : Scope) (cenv : Env) (fp : List Addr) : Cx := { X with s_0 := s, H_0 := H, env := cenv, outer := X.stack, ex := fp, fn := fun x => scope.names.lookup x == some .cell, pn := [], xe := fun _ _ => False }
section
variable {X : Cx} {pins : List (Addr × Obj)} {σ : St} {H : Hp} {s : Shared}
theorem block_start {scope : Scope} {own : List (Str × Nat)} {fp : List Addr} (I : Inv X pins σ H s) (ok : BlkOk X.N X.env.scope scope own) (hN : X.N.Nodup) (hfp : ∀ b ∈ fp, FpOk X pins H b ∧ b < s.heap.objs.size) :
    Inv (X.blk s H scope (compEnvC scope (cellsFrom (s.heap.objs.size + 1) scope.names (cloFrom X.env.cells scope.names [])) s.heap.objs.size X.env) fp) [] (wipe σ (own.map (·.2))) H { s with heap := pushCells (s.heap.push { cls := .type "dict", data := .dict #[] }) scope.names } := by
  have hfree : ∀ y ∈ scope.names, y.2 = .free → ∃ c, X.env.cells.lookup y.1 = some c := fun y hy e => by
    rcases ok.free y hy e with k | k
    · exact I.ok.has _ (.inl k)
    · exact I.ok.has _ (.inr k)
  generalize hcenv : compEnvC scope (cellsFrom (s.heap.objs.size + 1) scope.names (cloFrom X.env.cells scope.names [])) s.heap.objs.size X.env = cenv
  have kp : ∀ b o, s.heap.get? b = some o → (pushCells (s.heap.push { cls := .type "dict", data := .dict #[] }) scope.names).get? b = some o := fun b o e => pushCells_keeps _ _ _ _ (Heap.get?_push_of_some _ e)
  have hL : cenv.locals = s.heap.objs.size := by rw [← hcenv]; rfl
  have hcl : cenv.cells = cellsFrom (s.heap.objs.size + 1) scope.names (cloFrom X.env.cells scope.names []) := by rw [← hcenv]; rfl
  have hsc : cenv.scope = relS scope X.env.scope := by rw [← hcenv]; rfl
  rw [← Heap.size_push s.heap { cls := .type "dict", data := .dict #[] }] at hcl
  have cm : ∀ {y c}, (y, c) ∈ cloFrom X.env.cells scope.names [] → X.env.cells.lookup y = some c ∧ c < s.heap.objs.size := fun {y c} hm => by
    rcases cloFrom_mem hm with hm | ⟨h1, rfl⟩
    · cases hm
    · obtain ⟨c, hc⟩ := hfree _ h1 rfl
      rw [hc]
      obtain ⟨w, z⟩ := I.cell _ _ hc
      exact ⟨rfl, z.lt⟩
  have mem : ∀ {y c}, cenv.cells.lookup y = some c → (X.env.cells.lookup y = some c ∧ c < s.heap.objs.size) ∨ (s.heap.objs.size + 1 ≤ c ∧ CellAt (pushCells (s.heap.push { cls := .type "dict", data := .dict #[] }) scope.names) c none) := fun {y c} e => by
    rw [hcl] at e
    rcases cells_mem (PySem.mem_of_lookup e) with hm | ⟨_, h2, h3⟩
    · exact .inl (cm hm)
    · rw [Heap.size_push] at h2; exact .inr ⟨h2, h3⟩
  have look : ∀ {y}, scope.names.lookup y = some .free → ∃ c, cenv.cells.lookup y = some c ∧ X.env.cells.lookup y = some c := fun {y} hl => by
    have hy : (y, NameKind.free) ∈ scope.names := PySem.mem_of_lookup hl
    obtain ⟨c', e'⟩ := mem_lookup (cells_acc (names := scope.names) (n := (s.heap.push { cls := .type "dict", data := .dict #[] }).objs.size) (cloFrom_has (cells := X.env.cells) (acc := []) hy))
    rw [← hcl] at e'
    refine ⟨c', e', ?_⟩
    rw [hcl] at e'
    rcases cells_mem (PySem.mem_of_lookup e') with hm | ⟨h1, _, _⟩
    · exact (cm hm).1
    · have := ok.uniq _ h1
      rw [hl] at this; cases this
  have okB : (X.blk s H scope cenv fp).Ok := by
    refine ⟨I.ok.mod, by show cenv.scope.kind = _; rw [hsc]; exact ok.kind, by show cenv.globals = _; rw [← hcenv]; exact I.ok.glob, by show cenv.builtins = _; rw [← hcenv]; exact I.ok.blt, by show s.heap.objs.size ≤ cenv.locals; rw [hL]; exact Nat.le_refl _,
      fun y z c e1 e2 => ?_, fun y hy => ?_, fun y c z e => ?_, I.ok.hd, I.ok.frames, .inl rfl, fun b hb => ⟨?_, fun y c e z => ?_⟩, I.bs, Nat.le_trans I.ok.bsz I.sz, fun b o e hb => ?_, fun b hb z => ?_, I.stack, I.stkFree⟩
    · have e1 : cenv.cells.lookup y = some c := e1
      have e2 : cenv.cells.lookup z = some c := e2
      rw [hcl] at e1 e2
      refine cells_inj (fun p hp => ?_) (fun y z c a b => I.ok.inj y z c (cm a).1 (cm b).1) (PySem.mem_of_lookup e1) (PySem.mem_of_lookup e2)
      rw [Heap.size_push]
      exact Nat.lt_succ_of_lt (cm (y := p.1) (c := p.2) hp).2
    · show ∃ c, cenv.cells.lookup y = some c
      have key : ∀ k, cenv.kindOf y = some k → (k = .cell ∨ k = .free) → ∃ c, cenv.cells.lookup y = some c := fun k hk hk' => by
        unfold Env.kindOf at hk
        rw [hsc] at hk
        obtain ⟨k', e, r⟩ := lookup_relS hk
        have : k' = .cell ∨ k' = .free := by
          rcases r with rfl | ⟨rfl, _⟩
          · exact hk'
          · exact .inr rfl
        rcases this with rfl | rfl
        · obtain ⟨c, hm⟩ := cells_has (n := (s.heap.push { cls := .type "dict", data := .dict #[] }).objs.size) (acc := cloFrom X.env.cells scope.names []) (PySem.mem_of_lookup e)
          obtain ⟨c', e'⟩ := mem_lookup hm
          exact ⟨c', by rw [hcl]; exact e'⟩
        · obtain ⟨c, h1, _⟩ := look e
          exact ⟨c, h1⟩
      rcases hy with hy | hy
      · exact key _ hy (.inl rfl)
      · exact key _ hy (.inr rfl)
    · have z : (scope.names.lookup y == some NameKind.cell) = true := z
      have z : scope.names.lookup y = some .cell := by simpa using z
      have e : cenv.cells.lookup y = some c := e
      rw [hcl] at e
      rcases cells_mem (PySem.mem_of_lookup e) with hm | ⟨_, h2, _⟩
      · rcases cloFrom_mem hm with hm | ⟨h1, _⟩
        · cases hm
        · have q := ok.uniq _ h1
          rw [z] at q; cases q
      · rw [Heap.size_push] at h2
        exact Nat.le_of_succ_le h2
    · show b ≠ cenv.locals
      rw [hL]; exact Nat.ne_of_lt (hfp b hb).2
    · have e : cenv.cells.lookup y = some c := e
      rcases mem e with ⟨h1, _⟩ | ⟨h1, _⟩
      · exact (hfp b hb).1.2.2.2.2.1 y c h1 z
      · have h2 : s.heap.objs.size + 1 ≤ b := by rw [← z]; exact h1
        exact absurd (Nat.lt_of_lt_of_le (hfp b hb).2 (Nat.le_of_succ_le h2)) (Nat.lt_irrefl _)
    · rcases (hfp b hb).1.2.2.2.1 with z | z
      · exact I.ok.noex b o e z
      · exact absurd (Nat.lt_of_lt_of_le (Heap.lt_size e) (Nat.le_trans I.ok.bsz z)) (Nat.lt_irrefl _)
    · rcases List.mem_cons.mp (I.stkSub b z) with z | z
      · exact (hfp b hb).1.2.1 z
      · exact (hfp b hb).1.2.2.1 z
  refine ⟨okB, rfl, I.bare, Un.kept kp, ⟨fun _ => none, ?_, fun i y av e1 e2 e3 => ?_⟩, fun y c e => ?_, ?_, fun y c e => ?_, fun p hp => ?_, I.hok.kept kp, by rw [wipe_length]; exact I.len⟩
  · show Heap.Ns _ cenv.locals _
    rw [hL]
    exact Heap.Ns.keeps (Heap.Ns.new ..) fun b o e => pushCells_keeps _ _ _ _ e
  · obtain ⟨e2, hne⟩ := wipe_some e2
    have hfr : scope.names.lookup y = some .free ∧ (cenv.kindOf y = some .cell ∨ cenv.kindOf y = some .free) := by
      have key : ∀ k, cenv.scope.names.lookup y = some k → k = .local ∨ k = .cell ∨ k = .free → scope.names.lookup y = some .free ∧ (cenv.kindOf y = some .cell ∨ cenv.kindOf y = some .free) := fun k hk hk' => by
        have hk0 := hk
        rw [hsc] at hk
        obtain ⟨k', e, r⟩ := lookup_relS hk
        have no : ¬ (k' = .local ∨ k' = .cell) := fun hh => by
          rcases ok.own _ (PySem.mem_of_lookup e) hh with e' | e'
          · obtain ⟨p, hp, hpy⟩ := List.mem_map.mp e'
            have e3 := ok.ix p hp
            have : p.1 = y := hpy
            rw [this] at e3
            exact hne (List.mem_map.mpr ⟨p, hp, nodup_ix hN e3 e1⟩)
          · exact e' (List.mem_of_getElem? e1)
        rcases r with rfl | ⟨rfl, rfl⟩
        · rcases hk' with rfl | rfl | rfl
          · exact absurd (.inl rfl) no
          · exact absurd (.inr rfl) no
          · exact ⟨e, .inr hk0⟩
        · exact ⟨e, .inl hk0⟩
      have e3 : Vis cenv.scope y := e3
      rcases e3 with e3 | e3 | e3
      · exact key _ e3 (.inl rfl)
      · exact key _ e3 (.inr (.inl rfl))
      · exact key _ e3 (.inr (.inr rfl))
    obtain ⟨m, hn, hl⟩ := I.loc
    have hvis : Vis X.env.scope y := (ok.free _ (PySem.mem_of_lookup hfr.1) rfl).elim (fun k => .inr (.inl k)) (fun k => .inr (.inr k))
    obtain ⟨w, r, q⟩ := hl i y av e1 e2 hvis
    refine ⟨w, r, .inr ⟨hfr.2, ?_⟩⟩
    obtain ⟨c, h1, h2⟩ := look hfr.1
    rcases q with ⟨k, _⟩ | ⟨_, c', e', z⟩
    · have k : X.env.scope.names.lookup y = some .local := k
      rcases ok.free _ (PySem.mem_of_lookup hfr.1) rfl with k' | k' <;> rw [show X.env.scope.names.lookup y = _ from k'] at k <;> cases k
    · rw [h2] at e'; cases e'
      exact ⟨c, h1, z.keeps kp⟩
  · have e : cenv.cells.lookup y = some c := e
    rcases mem e with ⟨h1, _⟩ | ⟨_, z⟩
    · obtain ⟨w, z⟩ := I.cell y c h1
      exact ⟨w, z.keeps kp⟩
    · exact ⟨_, z⟩
  · show H cenv.locals = none
    rw [hL]; exact I.hok.fresh (Nat.le_refl _)
  · have e : cenv.cells.lookup y = some c := e
    rcases mem e with ⟨h1, _⟩ | ⟨h1, _⟩
    · exact I.freeC y c h1
    · exact I.hok.fresh (Nat.le_of_succ_le h1)
  · exact absurd (show p ∈ ([] : List (Addr × Obj)) ++ [] from hp) (by simp)
theorem app_ok {E : Value → Shared → Prop} {D : Addr} {xs : List V} {y : V} {v : Value} {Q : Value → Shared → Prop} (I : Inv X pins σ H s) (hD : H D = some (.lst xs)) (hz : xs.length < sizeLine) (r : RelV y v)
    (h : ∀ s', Inv X pins σ (upd H D (.lst (xs ++ [y]))) s' → Q .none s') : wpAny (model X.prog X.w) X.A (call (.builtin "list.append") [.ref D, v]) Q E s := by
  obtain ⟨hz', its, n, ri, e⟩ := I.hok D _ hD
  have hl := ri.length
  refine append_at (hsz := by rw [List.size_toArray]; omega) e fun h' sb ho' => ?_
  refine h { s with heap := h' } (I.write (t' := s.toks) (by rw [hD]; trivial) (.inl rfl) (fun b u hb q => (sb.2 b hb).trans q) ⟨_, ho'⟩ ⟨by rw [List.length_append]; exact hz, its ++ [v], n + 1, ri.append (.cons r .nil), ?_⟩)
  rw [ho']
  simp
def PTs (X : Cx) (ifs : List Expr) (t : TT) : Prop :=
  ∀ (pins : List (Addr × Obj)) (s : Shared) (σ : St) (H : Hp) (Q : Bool → Hp → Prop), Inv X pins σ H s → t σ H Q →
    wpAny (model X.prog X.w) X.A (forIn ifs true fun c r => if r = true then do let ok ← isTrue c X.env (eval c X.env); pure (ForInStep.yield ok) else pure (ForInStep.yield r)) (TP X pins σ Q) X.xe s
def tYes : TT := fun _ H Q => Q true H
theorem pts_nil : PTs X [] tYes := fun _ _ _ H _ I h => wpAny_tests_nil ⟨H, I, h⟩
end
theorem thnF {α : Type} {t : Sem α} {Q Q' : α → Shared → Prop} {M : Model} {A : Around} {E : Value → Shared → Prop} {s : Shared} (h : wpAny M A t Q (fun _ _ => False) s) (hQ : ∀ a s, Q a s → Q' a s) : wpAny M A t Q' E s := wpAny_mono h hQ fun _ _ z => False.elim z
theorem compLoop_any {prog : Program} {w : World} {A : Around} {R : Result → Shared → Prop} {s : Shared} {elt target iter : Expr} {ifs : List Expr} {scope : Scope} {pos : Pos} {it acc : Value} {env : Env} (I : Nat → Shared → Prop)
    (turn : ∀ n s, I n s → wpAny (model prog w) A (pyNext it) (fun r s₁ => match r with
      | none => R (.ok .next) s₁
      | some v => wpAny (model prog w) A (letOwnedTupleGo target it v) (fun _ s₁' => wpAny (model prog w) A (assign target env v) (fun _ s₂ =>
          wpAny (model prog w) A (forIn ifs true fun c r => if r = true then do let ok ← isTrue c env (eval c env); pure (ForInStep.yield ok) else pure (ForInStep.yield r)) (fun ok s₃ =>
            if ok = true then wpAny (model prog w) A (eval elt env) (fun x s₄ =>
              wpAny (model prog w) A (call (.builtin "list.append") [acc, x]) (fun _ s₅ => ∃ m, m < n ∧ I m s₅) (notedBy (model prog w) A env fun e s' => R (.error e) s') s₄) (notedBy (model prog w) A env fun e s' => R (.error e) s') s₃
            else ∃ m, m < n ∧ I m s₃) (notedBy (model prog w) A env fun e s' => R (.error e) s') s₂) (notedBy (model prog w) A env fun e s' => R (.error e) s') s₁') (notedBy (model prog w) A env fun e s' => R (.error e) s') s₁) (notedBy (model prog w) A env fun e s' => R (.error e) s') s)
    (n : Nat) (h : I n s) :
    codeAny (model prog w) A (.compLoop (.ListComp elt [⟨target, iter, ifs, 0⟩] scope pos) 0 it acc env) R s := by
  refine codeAny_loop rfl I (fun n s hI => ?_) n h
  show wpAny _ A ((compTurn (.ListComp elt [⟨target, iter, ifs, 0⟩] scope pos) 0 it acc env).onRaise (fun x => do noteFrame x env; theTreesLotGoes x)) _ _ s
  refine wpAny_noted ?_
  rw [compTurn_list]
  refine wpAny_bind (wpAny_standAt (wpAny_bind (wpAny_mono (turn n s hI) (fun r s₁ h₁ => ?_) fun _ _ h' => h')))
  cases r with
  | none => exact wpAny_pure h₁
  | some v =>
    refine wpAny_bind (wpAny_mono h₁ (fun _ s₁' h₁' => ?_) fun _ _ h' => h')
    refine wpAny_bind (wpAny_mono h₁' (fun _ s₂ h₂ => wpAny_bind (wpAny_mono h₂ (fun ok s₃ h₃ => ?_) fun _ _ h' => h')) fun _ _ h' => h')
    cases ok with
    | false => exact wpAny_pure ⟨rfl, h₃⟩
    | true =>
      exact wpAny_bind (wpAny_bind (wpAny_mono h₃ (fun x s₄ h₄ => wpAny_bind (wpAny_mono h₄ (fun _ s₅ h₅ => wpAny_pure (wpAny_pure ⟨rfl, h₅⟩)) fun _ _ h' => h')) fun _ _ h' => h'))
section
variable {X : Cx}
def tLc (wi : TI) (g : TG) (tt : TT) (te : TE) (vs : List Nat) : TE := fun σ H Q => wi σ H fun J H1 => ∀ D, H1 D = none → ∃ W : Nat → Nat → Hp → Prop, (∃ m, W 0 m (upd H1 D (.lst []))) ∧ ∀ i m H, W i m H →
  (J.stop i H ∧ Q (.ref D) H) ∨ (J.go i H ∧ ∃ Nx : Hp → Prop, (∀ H', Nx H' → ∃ m', m' < m ∧ W (i + 1) m' H') ∧ ∀ x H', J.yld i H x H' → g x (wipe σ vs) H' fun σ2 H2 => wipe σ2 vs = wipe σ vs ∧ tt σ2 H2 fun b H3 =>
    if b = true then te σ2 H3 fun y H4 => ∃ acc, H4 D = some (.lst acc) ∧ acc.length < sizeLine ∧ Nx (upd H4 D (.lst (acc ++ [y]))) else Nx H3)
theorem lc_core {pins : List (Addr × Obj)} {s : Shared} {σ : St} {H : Hp} {Q : VK} {elt tg iter : Expr} {ifs : List Expr} {scope : Scope} {own : List (Str × Nat)} {pos pos' : Pos} {wi : TI} {g : TG} {tt : TT} {te : TE} {use : Option (Value → Sem Unit)} {Qf : Value → Shared → Prop}
    (hc : X.calm = true) (hN : X.N.Nodup) (I : Inv X pins σ H s) (hi : PI X tg iter wi) (ok : BlkOk X.N X.env.scope scope own)
    (hg : ∀ (s : Shared) (H : Hp) (C : Addr) (cl : List (Str × Addr)) (fp : List Addr), PG (X.blk s H scope (compEnvC scope cl C X.env) fp) tg g) (ht : ∀ (s : Shared) (H : Hp) (C : Addr) (cl : List (Str × Addr)) (fp : List Addr), PTs (X.blk s H scope (compEnvC scope cl C X.env) fp) ifs tt)
    (he : ∀ (s : Shared) (H : Hp) (C : Addr) (cl : List (Str × Addr)) (fp : List Addr), PE (X.blk s H scope (compEnvC scope cl C X.env) fp) elt te) (hs : ∀ x, foldedSetIterable iter X.env x = pure x)
    (h : tLc wi g tt te (own.map (·.2)) σ H Q)
    (hRR : ∀ D C s' m H', Inv X pins σ H' s' → Q (.ref D) H' → s'.heap.Ns C m → FpOk X pins H' C → compPost (model X.prog X.w) X.A X.xe use Qf (.ref D) C (.ok .next) s') :
    wpAny (model X.prog X.w) X.A (comprehension (.ListComp elt [⟨tg, iter, ifs, 0⟩] scope pos) scope X.env pos' (newList []) false (eval iter X.env) use) Qf X.xe s := by
  have hfree : ∀ y ∈ scope.names, y.2 = .free → ∃ c, X.env.cells.lookup y.1 = some c := fun y hy e => by
    rcases ok.free y hy e with k | k
    · exact I.ok.has _ (.inl k)
    · exact I.ok.has _ (.inr k)
  refine wpAny_comprehension_free (use := use) rfl hs (closure_ok hfree) ok.kind (fun y hy e => by rw [ok.uniq y hy, e])
    (thn (hi pins s σ H _ I h) fun xv s1 hx => thn hx fun itv s2 h2 => ?_)
  obtain ⟨it, fp, tn, J, H2, e, I2, T, st2, f2, q⟩ := h2
  subst e
  refine wpAny_newObj_type (newEnv_comp ?_) (by show 0 ≤ sizeLine; decide)
  generalize hD : s2.heap.objs.size = D
  have hDn : H2 D = none := I2.hok.fresh (Nat.le_of_eq hD)
  obtain ⟨W, ⟨m0, w0⟩, turn⟩ := q D hDn
  generalize hs3 : ({ s2 with heap := s2.heap.push { cls := .type "list", data := .seq ([] : List Value).toArray } } : Shared) = s3
  have I3 : Inv X pins σ (upd H2 D (.lst [])) s3 := by
    rw [← hs3]
    refine I2.laid (t' := s2.toks) (fun b o e => Heap.get?_push_of_some _ e) (Nat.le_of_eq hD) ⟨Nat.zero_le _, [], 0, .nil, ?_⟩
    rw [← hD]
    exact Heap.get?_push_size _ rfl
  have h3 : s3.heap = s2.heap.push { cls := .type "list", data := .seq ([] : List Value).toArray } := by rw [← hs3]
  have sz : ∀ b ∈ fp, b < s2.heap.objs.size := fun b hb => by
    obtain ⟨o, e, _⟩ := T.obj _ _ st2 b hb
    exact Heap.lt_size e
  have f3 : ∀ b ∈ fp, FpOk X pins (upd H2 D (.lst [])) b ∧ b < s3.heap.objs.size := fun b hb => by
    have hlt := sz b hb
    refine ⟨⟨?_, (f2 b hb).2⟩, by rw [h3, Heap.size_push]; exact Nat.lt_succ_of_lt hlt⟩
    rw [upd_ne (by rw [← hD]; exact Nat.ne_of_lt hlt)]
    exact (f2 b hb).1
  have st3 : tn 0 s3.heap := T.keep _ _ _ st2 fun b _ o e => by rw [h3]; exact Heap.get?_push_of_some _ e
  have I4 := block_start I3 ok hN f3
  have pg := hg s3 (upd H2 D (.lst [])) s3.heap.objs.size (cellsFrom (s3.heap.objs.size + 1) scope.names (cloFrom X.env.cells scope.names [])) fp
  have pt := ht s3 (upd H2 D (.lst [])) s3.heap.objs.size (cellsFrom (s3.heap.objs.size + 1) scope.names (cloFrom X.env.cells scope.names [])) fp
  have pe := he s3 (upd H2 D (.lst [])) s3.heap.objs.size (cellsFrom (s3.heap.objs.size + 1) scope.names (cloFrom X.env.cells scope.names [])) fp
  show codeAny _ _ (.compStart (.ListComp elt [⟨tg, iter, ifs, 0⟩] scope pos) 0 (.ref it) (.ref D) (compEnvC scope (cellsFrom (s3.heap.objs.size + 1) scope.names (cloFrom X.env.cells scope.names [])) s3.heap.objs.size X.env)) (compPost (model X.prog X.w) X.A X.xe use Qf (.ref D) s3.heap.objs.size) { s3 with heap := pushCells (s3.heap.push { cls := .type "dict", data := .dict #[] }) scope.names }
  have nfp : ∀ b ∈ fp, (upd H2 D (.lst [])) b = none := fun b hb => (f3 b hb).1.1
  generalize hce : compEnvC scope (cellsFrom (s3.heap.objs.size + 1) scope.names (cloFrom X.env.cells scope.names [])) s3.heap.objs.size X.env = ce at I4 pg pt pe ⊢
  have cL : ce.locals = s3.heap.objs.size := by subst hce; rfl
  generalize hH3 : upd H2 D (.lst []) = H3 at I3 I4 pg pt pe w0 nfp f3
  generalize hs4 : ({ s3 with heap := pushCells (s3.heap.push { cls := .type "dict", data := .dict #[] }) scope.names } : Shared) = s4 at I4 ⊢
  have st4 : tn 0 s4.heap := T.keep _ _ _ st3 fun b _ o e => by rw [← hs4]; exact pushCells_keeps _ _ _ _ (Heap.get?_push_of_some _ e)
  have stat : ∀ {σ' : St} {H' : Hp} {s' : Shared}, Inv (X.blk s3 H3 scope ce fp) [] σ' H' s' → (∀ b ∈ fp, H' b = none) → ∀ b ∈ fp, FpOk (X.blk s3 H3 scope ce fp) [] H' b := fun {σ' H' s'} I' hn b hb =>
    ⟨hn b hb, (I'.ok.exf b hb).1, I'.ok.exfs b hb, .inl hb, fun x c e => (I'.ok.exf b hb).2 x c e, fun p hp => absurd (show p ∈ ([] : List (Addr × Obj)) ++ [] from hp) (by simp)⟩
  have loop : codeAny (model X.prog X.w) X.A (.compLoop (.ListComp elt [⟨tg, iter, ifs, 0⟩] scope pos) 0 (.ref it) (.ref D) ce) (compPost (model X.prog X.w) X.A X.xe use Qf (.ref D) s3.heap.objs.size) s4 := by
    refine compLoop_any (fun n s' => ∃ i H', Inv (X.blk s3 H3 scope ce fp) [] (wipe σ (own.map (·.2))) H' s' ∧ tn i s'.heap ∧ (∀ b ∈ fp, H' b = none) ∧ W i n H') ?_ m0 ⟨0, H3, I4, st4, nfp, w0⟩
    rintro n s5 ⟨i, H5, I5, st5, n5, w5⟩
    rcases turn i n H5 w5 with ⟨stop, qq⟩ | ⟨go, Nx, hNx, step⟩
    · have td := T.done (X.blk s3 H3 scope ce fp) rfl rfl rfl hc i [] s5 _ H5 (fun _ _ => False) I5 (stat I5 n5) st5 stop
      refine thnF td fun r s6 ⟨hr, I6⟩ => ?_
      subst hr
      have I7 : Inv X pins σ H5 s6 := I3.call' (ch := fp) I6.os I6.base I6.hok I6.bare fun b hb => ⟨(f3 b hb).1.2.2.2.1, (f3 b hb).1.2.1, (f3 b hb).1.2.2.2.2.1, (f3 b hb).1.2.2.2.2.2⟩
      have nC : H5 s3.heap.objs.size = none := by
        have z : H5 ce.locals = none := I6.free
        rw [cL] at z
        exact z
      obtain ⟨m, hn, _⟩ := I6.loc
      have hn : s6.heap.Ns ce.locals m := hn
      rw [cL] at hn
      exact hRR D s3.heap.objs.size s6 m H5 I7 qq hn (I3.fpOk (Nat.le_refl _) nC)
    · have ti := T.item (X.blk s3 H3 scope ce fp) rfl rfl rfl hc i [] s5 _ H5 (fun _ _ => False) I5 (stat I5 n5) st5 go
      refine thnF ti fun r s6 ⟨u, hr, h6⟩ => ?_
      subst hr
      refine thnF h6 fun _ s7 ⟨x, H7, I7, r7, y7, st7, n7⟩ => ?_
      have I7' := I7.pinned (stat I7 n7) (T.obj _ _ st7)
      refine thnF (pg _ s7 _ H7 x u _ I7' r7 (step x H7 y7)) fun _ s8 ⟨σ8, H8, I8, hw8, q8⟩ => ?_
      refine thnF (pt _ s8 σ8 H8 _ I8 q8) fun b s9 ⟨H9, I9, q9⟩ => ?_
      have fin : ∀ {s' : Shared} {H' : Hp}, Inv (X.blk s3 H3 scope ce fp) ([] ++ pinsAt fp s7.heap) σ8 H' s' → Nx H' → ∃ m, m < n ∧ ∃ i H', Inv (X.blk s3 H3 scope ce fp) [] (wipe σ (own.map (·.2))) H' s' ∧ tn i s'.heap ∧ (∀ b ∈ fp, H' b = none) ∧ W i m H' := fun {s' H'} I' nx => by
        obtain ⟨m', hm, w'⟩ := hNx H' nx
        have pin' : ∀ b ∈ fp, ∀ o, s7.heap.get? b = some o → s'.heap.get? b = some o ∧ H' b = none := fun b hb o e =>
          let z := I'.pin (b, o) (List.mem_append_right _ (List.mem_append_right _ (mem_pinsAt hb e)))
          ⟨z.1, z.2.1⟩
        have hl : (wipe σ (own.map (·.2))).length = σ8.length := by rw [← hw8, wipe_length]
        refine ⟨m', hm, i + 1, H', (I'.unpinned (pins := [])).weak hl (fun j v e => ?_), T.keep _ _ _ st7 fun b hb o e => (pin' b hb o e).1, fun b hb => ?_, w'⟩
        · rw [← hw8] at e
          exact (wipe_some e).1
        · obtain ⟨o, e, _⟩ := T.obj _ _ st7 b hb
          exact (pin' b hb o e).2
      cases b with
      | false =>
        simp only [Bool.false_eq_true, if_false] at q9 ⊢
        exact fin I9 q9
      | true =>
        simp only [if_true] at q9 ⊢
        refine thnF (pe _ s9 σ8 H9 _ I9 q9) fun z s10 ⟨yv, H10, I10, r10, acc, hD10, hz10, nx⟩ => ?_
        exact app_ok (X := X.blk s3 H3 scope ce fp) I10 hD10 hz10 r10 fun s11 I11 => fin I11 nx
  exact codeAny_compStart_list loop (T.self X.A 0 _ _ _ st4 loop)
theorem pe_lc {elt tg iter : Expr} {ifs : List Expr} {scope : Scope} {own : List (Str × Nat)} {pos : Pos} {wi : TI} {g : TG} {tt : TT} {te : TE} (hc : X.calm = true) (hN : X.N.Nodup) (hi : PI X tg iter wi) (ok : BlkOk X.N X.env.scope scope own)
    (hg : ∀ (s : Shared) (H : Hp) (C : Addr) (cl : List (Str × Addr)) (fp : List Addr), PG (X.blk s H scope (compEnvC scope cl C X.env) fp) tg g) (ht : ∀ (s : Shared) (H : Hp) (C : Addr) (cl : List (Str × Addr)) (fp : List Addr), PTs (X.blk s H scope (compEnvC scope cl C X.env) fp) ifs tt)
    (he : ∀ (s : Shared) (H : Hp) (C : Addr) (cl : List (Str × Addr)) (fp : List Addr), PE (X.blk s H scope (compEnvC scope cl C X.env) fp) elt te) (hs : ∀ x, foldedSetIterable iter X.env x = pure x := by intro _; rfl) :
    PE X (.ListComp elt [⟨tg, iter, ifs, 0⟩] scope pos) (tLc wi g tt te (own.map (·.2))) := by
  intro pins s σ H Q I h
  rw [eval_ListComp]
  refine lc_core hc hN I hi ok hg ht he hs h fun D C s' m H' I' q hn f => ⟨m, hn, fun h'' sb => ?_⟩
  obtain ⟨f0, f1, f2, f3, f4, f5⟩ := f
  exact ⟨.ref D, H', I'.turned (t' := s'.toks) (fun b o hb e => (sb.2 b hb).trans e) f0 f1 f3 f4 f5, rfl, q⟩
theorem ps_setLc {i : Nat} {y : Str} {py : Pos} {elt tg iter : Expr} {ifs : List Expr} {scope : Scope} {own : List (Str × Nat)} {pos spos : Pos} {wi : TI} {g : TG} {tt : TT} {te : TE} (hc : X.calm = true) (hN : X.N.Nodup) (hy : X.N[i]? = some y) (hyl : X.env.scope.names.lookup y = some .local)
    (hsw : swapsWith (.ListComp elt [⟨tg, iter, ifs, 0⟩] scope pos) (some (.Name y py)) spos.line X.env = pure true) (hi : PI X tg iter wi) (ok : BlkOk X.N X.env.scope scope own)
    (hg : ∀ (s : Shared) (H : Hp) (C : Addr) (cl : List (Str × Addr)) (fp : List Addr), PG (X.blk s H scope (compEnvC scope cl C X.env) fp) tg g) (ht : ∀ (s : Shared) (H : Hp) (C : Addr) (cl : List (Str × Addr)) (fp : List Addr), PTs (X.blk s H scope (compEnvC scope cl C X.env) fp) ifs tt)
    (he : ∀ (s : Shared) (H : Hp) (C : Addr) (cl : List (Str × Addr)) (fp : List Addr), PE (X.blk s H scope (compEnvC scope cl C X.env) fp) elt te) (hs : ∀ x, foldedSetIterable iter X.env x = pure x := by intro _; rfl) :
    PS X (.Assign [.Name y py] (.ListComp elt [⟨tg, iter, ifs, 0⟩] scope pos) spos) (tAsg (tLc wi g tt te (own.map (·.2))) (gName i)) := by
  intro pins s σ H D I h
  rw [exec_Assign_Name_used _ _ _ _ hsw]
  refine wpAny_bind (wpAny_standAt (wpAny_bind ?_))
  show wpAny _ X.A (do let _ ← comprehension (.ListComp elt [⟨tg, iter, ifs, 0⟩] scope pos) scope X.env (firstIterPos [⟨tg, iter, ifs, 0⟩] pos) (newList []) false (eval iter X.env) (some (assign (.Name y py) X.env))) _ _ s
  have h : tLc wi g tt te (own.map (·.2)) σ H (fun x H1 => gName i x σ H1 D.nx) := h
  refine wpAny_bind (thn (lc_core (Qf := fun _ s' => SP X pins D .next s') hc hN I hi ok hg ht he hs h fun L C s' m H' I' q hn f => ?_) fun _ s' hq => wpAny_pure (wpAny_pure hq))
  show wpAny _ _ (assign (.Name y py) X.env (.ref L)) _ _ _
  refine wpAny_assign_Name (store_ok2 (v := V.ref L) I' hN hy (.inl hyl) rfl (fun s2 I2 ⟨a, sb, ha⟩ => ?_) (.inr hyl))
  obtain ⟨f0, f1, f2, f3, f4, f5⟩ := f
  have haC : C ≠ a := by
    rcases ha with z | z
    · rw [z]; exact f1
    · exact fun e => f4 y a z e.symm
  refine ⟨m, hn.sameBut sb haC, fun h3 sb3 => ?_⟩
  exact ⟨_, H', I2.turned (t' := s2.toks) (fun b o hb e => (sb3.2 b hb).trans e) f0 f1 f3 f4 f5, q⟩
end
def blkC (N : List Str) (sc scope : Scope) (own : List (Str × Nat)) : Bool :=
  (match scope.kind with | .function => true | _ => false) && (scope.names.all fun y => decide (scope.names.lookup y.1 = some y.2)) && (own.all fun p => decide (N[p.2]? = some p.1)) &&
    (scope.names.all fun y => match y.2 with
      | .free => (match sc.names.lookup y.1 with | some .cell => true | some .free => true | _ => false)
      | .local => decide (y.1 ∈ own.map (·.1)) || decide (y.1 ∉ N)
      | .cell => decide (y.1 ∈ own.map (·.1)) || decide (y.1 ∉ N)
      | _ => true)
theorem blkOk_by {N : List Str} {sc scope : Scope} {own : List (Str × Nat)} (h : blkC N sc scope own = true) : BlkOk N sc scope own := by
  unfold blkC at h
  simp only [Bool.and_eq_true, List.all_eq_true, decide_eq_true_eq] at h
  obtain ⟨⟨⟨h1, h2⟩, h3⟩, h4⟩ := h
  refine ⟨?_, h2, h3, fun y hy e => ?_, fun y hy e => ?_⟩
  · split at h1
    · assumption
    · cases h1
  · have q := h4 y hy
    simp only [e] at q
    split at q <;> first | exact .inl (by assumption) | exact .inr (by assumption) | cases q
  · have q := h4 y hy
    rcases e with e | e <;> (simp only [e, Bool.or_eq_true, decide_eq_true_eq] at q; exact q)
end L2
namespace L2
open PySem PySem.Spec PyProof.Rows
section
variable {prog : Program} {w : World} {A : Around} {R : Result → Shared → Prop} {s : Shared} {elt t0 i0 t1 i1 : Expr} {ifs0 ifs1 : List Expr} {scope : Scope} {pos : Pos} {it acc : Value} {env : Env}
end
section
variable {X : Cx}
end
end L2
namespace L2
open PySem PySem.Spec PyProof.Rows
section
variable {κ : Type} [DecidableEq κ]
end
section
variable {P : Program} {w : World} {H : Hp} {h : Heap} {a : Addr}
end
section
variable {X : Cx} {pins : List (Addr × Obj)} {σ : St} {H : Hp} {s : Shared} {a : Addr} {y v : V} {u r : Value} {o : Option V} {A : Around} {E : Value → Shared → Prop}
end
section
variable {X : Cx} {pins : List (Addr × Obj)} {σ : St} {H : Hp} {s : Shared} {a : Addr} {kvs : List (Key × V)} {k : Key} {u : Value} {A : Around} {E : Value → Shared → Prop}
end
section
variable {X : Cx} {o i e value : Expr} {pos pos' tpos : Pos} {td ty tv : TE}
end
section
variable {X : Cx} {pos : Pos}
end
section
variable {X : Cx} {pins : List (Addr × Obj)} {σ : St} {H : Hp} {s : Shared} {a : Addr} {y d : V} {u r : Value} {o : Option V} {A : Around} {E : Value → Shared → Prop}
end
section
variable {X : Cx} {o e f : Expr} {apos cpos : Pos} {td ty tx : TE}
end
section
variable {X : Cx} {pins : List (Addr × Obj)} {σ : St} {H : Hp} {s : Shared} {a : Addr} {kvs : List (Key × V)} {A : Around} {E : Value → Shared → Prop}
end
section
variable {X : Cx} {pins : List (Addr × Obj)} {σ : St} {H : Hp} {s : Shared} {a : Addr} {y : V} {u : Value} {A : Around} {E : Value → Shared → Prop}
end
end L2
namespace L2
open PySem PySem.Spec PyProof.Rows
section
variable {prog : Program} {w : World} {A : Around} {E : Value → Shared → Prop}
end
section
variable {X : Cx}
end
end L2
namespace L2
open PySem PySem.Spec PyProof.Rows
section
variable {X : Cx} {pins : List (Addr × Obj)} {σ : St} {H : Hp} {s : Shared} {h' : Heap}
theorem Inv.turnedL {t' : Nat} {ch : List Addr} (I : Inv X pins σ H s) (k : ∀ b o, b ∉ ch → s.heap.get? b = some o → h'.get? b = some o) (hf : ∀ b ∈ ch, FpOk X pins H b) : Inv X pins σ H { s with heap := h', toks := t' } := by
  have nit : ∀ b u, H b = some u → b ∉ ch := fun b u e z => by
    have q := (hf b z).1
    rw [q] at e; cases e
  refine I.step (g' := s.gens) (d' := s.drawn) (ch := ch) (fun b hb => ⟨(hf b hb).2.2.2.1, (hf b hb).2.1, (hf b hb).2.2.2.2.1, (hf b hb).2.2.2.2.2⟩) (fun b o _ _ hc e _ => k b o hc e) (fun b o _ _ hc e _ => ⟨o.slots, k b o hc e⟩)
    (fun _ _ _ _ n => n) (fun b o hc e => ⟨o, k b o hc e⟩) (fun _ _ e => e) (fun _ _ _ e => e) (fun b ps e => ⟨#[], by rw [e]; simp⟩) (fun m hm => ?_) (fun b u e => ?_) I.bare
  · obtain ⟨o, es, ep, ho, r⟩ := hm
    exact ⟨o, es, ep, k _ o (fun z => (hf _ z).2.1 rfl) ho, r⟩
  · refine (I.hok b u e).stay (fun c v hc q => k c v ?_ q) (fun _ q => q) fun _ _ q => q
    rcases hc with z | z
    · rw [z]; exact nit b u e
    · exact nit c _ z
theorem Inv.turnedNew {t' : Nat} {ch : List Addr} {T : Addr} {ob : HO} (I : Inv X pins σ H s) (k : ∀ b o, b ∉ ch → s.heap.get? b = some o → h'.get? b = some o) (hf : ∀ b ∈ ch, FpOk X pins H b) (hT : s.heap.objs.size ≤ T)
    (new : ObjOk X.prog X.w (upd H T ob) h' T ob) : Inv X pins σ (upd H T ob) { s with heap := h', toks := t' } := by
  have hn : H T = none := I.hok.fresh hT
  have nit : ∀ b u, H b = some u → b ∉ ch := fun b u e z => by
    have q := (hf b z).1
    rw [q] at e; cases e
  refine I.step (g' := s.gens) (d' := s.drawn) (ch := ch) (fun b hb => ⟨(hf b hb).2.2.2.1, (hf b hb).2.1, (hf b hb).2.2.2.2.1, (hf b hb).2.2.2.2.2⟩) (fun b o _ _ hc e _ => k b o hc e) (fun b o _ _ hc e _ => ⟨o.slots, k b o hc e⟩)
    (fun b o _ e n => ?_) (fun b o hc e => ⟨o, k b o hc e⟩) (fun b xs e => ?_) (fun b o u e => ?_) (fun b ps e => ⟨#[], ?_⟩) (fun m hm => ?_) (fun b u e => ?_) I.bare
  · rw [upd_ne (Nat.ne_of_lt (Nat.lt_of_lt_of_le (Heap.lt_size e) hT))]; exact n
  · rw [upd_ne (ne_of_none e hn)]; exact e
  · rw [upd_ne (ne_of_none e hn)]; exact e
  · rw [upd_ne (ne_of_none e hn), e]; simp
  · obtain ⟨o, es, ep, ho, r⟩ := hm
    exact ⟨o, es, ep, k _ o (fun z => (hf _ z).2.1 rfl) ho, r⟩
  · by_cases hb : b = T
    · subst hb
      rw [upd_same] at e
      cases e
      exact new
    · rw [upd_ne hb] at e
      refine (I.hok b u e).stay (fun c v hc q => k c v ?_ q) (fun c q => by rw [upd_ne (ne_of_none q hn)]; exact q) fun c xs q => by rw [upd_ne (ne_of_none q hn)]; exact q
      rcases hc with z | z
      · rw [z]; exact nit b u e
      · exact nit c _ z
end
section
variable {X : Cx}
theorem pi_one {tg : Expr} {pins : List (Addr × Obj)} {σ : St} {H : Hp} {s : Shared} {R : It → Hp → Prop} {J : It} {tn : Nat → Heap → Prop} {tk : Nat} (I : Inv X pins σ H s) (o : Obj)
    (T : Turn X.prog X.w X.K tg J [s.heap.objs.size] s.heap.objs.size tn) (st : tn 0 (s.heap.push o)) (q : R J H) : PIE X pins σ tg R (.ref s.heap.objs.size) { s with heap := s.heap.push o, toks := tk } := by
  refine ⟨s.heap.objs.size, [s.heap.objs.size], tn, J, H, rfl, I.kept fun b ob e => Heap.get?_push_of_some _ e, T, st, fun b hb => ?_, q⟩
  have e : b = s.heap.objs.size := by simpa using hb
  subst e
  exact I.fpOk (Nat.le_refl _) (I.hok.fresh (Nat.le_refl _))
end
def Itc (lo c : Int) (n : Nat) : It := ⟨fun i _ => i < n, fun i H x H' => H' = H ∧ x = .int (lo + (i : Nat) * c), fun i _ => n ≤ i⟩
theorem turn_rangeC {P : Program} {w : World} {K : PySem.W.Frag} {tg : Expr} (it : Addr) (lo c : Int) (n : Nat) : Turn P w K tg (Itc lo c n) [it] it (fun i h => IsRangeIter h it (lo + (i : Nat) * c) ((n : Int) - (i : Nat)) c) where
  mem := by simp
  obj := fun i h st b hb => by
    have e : b = it := by simpa using hb
    subst e
    exact ⟨_, st, fun v z => nomatch z⟩
  keep := fun i h h' st k => k it (by simp) _ st
  item := by
    intro X hP hw hK hc i pins s σ H E I hf st hg
    subst hP hw hK
    obtain ⟨f0, f1, f2, f3, f4, f5⟩ := hf it (by simp)
    have W := Walks.range (prog := X.prog) (w := X.w) (I.ok.hd hc) it lo c n
    refine W.item i s _ _ hg st fun v h' tk hv st' kk => ?_
    obtain ⟨t, rfl⟩ := hv
    have I1 : Inv X pins σ H { s with heap := h', toks := tk } := I.turned (fun b o hb e => kk b o (by simpa using hb) e) f0 f1 f3 f4 f5
    exact ⟨_, rfl, go_of (s := { s with heap := h', toks := tk }) (n := "range_iterator") st' rfl rfl (by decide) ⟨.int (lo + (i : Nat) * c), H, I1, ⟨t, rfl⟩, ⟨rfl, rfl⟩, st', fun b hb => (hf b hb).1⟩⟩
  done := by
    intro X hP hw hK hc i pins s σ H E I hf st hg
    subst hP hw hK
    obtain ⟨f0, f1, f2, f3, f4, f5⟩ := hf it (by simp)
    exact wpAny_pyNext_range_end (I.ok.hd hc) st (by have : n ≤ i := hg; omega) fun h' eb => ⟨rfl, I.turned (t' := s.toks) (fun b o hb e => eb b o hb e) f0 f1 f3 f4 f5⟩
  self := fun A i s Q E st h => wpAny_pyIter_rangeiter st h
def RgC (i j c : Int) (n : Nat) : Prop := c ≠ 0 ∧ c.natAbs < 1073741824 ∧ Builtin.Range.small i j c = true ∧ Builtin.Range.rangeSize i j c = n
theorem RgC.neg {i j : Int} (ha : -(2 ^ 62) ≤ i) (ha' : i < 2 ^ 62) (hb : -(2 ^ 62) ≤ j) (hb' : j < 2 ^ 62) : RgC i j (-1) (i - j).toNat :=
  ⟨by decide, by decide, PySem.W.small_down ha ha' hb hb', PySem.W.rangeSize_downNat i j⟩
def iRng3 (ta : TA) : TI := fun σ H R => ta σ H fun vs H1 => ∃ (i j c : Int) (n : Nat), vs = [.int i, .int j, .int c] ∧ RgC i j c n ∧ R (Itc i c n) H1
section
variable {X : Cx} {tg : Expr}
theorem pi_range3 {a b c : Expr} {ta : TA} {p pos : Pos} (hg : Gl X "range") (hm : X.mg "range" = none) (ha : PA X [a, b, c] ta)
    (hs : starEach [a, b, c] X.env = (false, eval a X.env) :: starEach [b, c] X.env := by rfl) (hpl : (backTo pos (starEach [b, c] X.env)).any (·.1) = false := by rfl) :
    PI X tg (.Call (.Name "range" p) [a, b, c] [] pos) (iRng3 ta) := by
  intro pins s σ H R I h
  refine Call_ (ld_blt I hg hm boot_range (PyProof.Rows.callWith_type1 (thn (ha pos pins s σ H _ I h) fun us s1 ⟨vs, H1, I1, r1, q1⟩ => ?_) hs hpl))
  obtain ⟨i, j, k, n, e, ⟨c0, c1, c2, c3⟩, q⟩ := q1
  subst e
  cases r1 with
  | cons r rr =>
    cases rr with
    | cons r' rr =>
      cases rr with
      | cons r'' rr =>
        cases rr
        obtain ⟨t, rfl⟩ := r
        obtain ⟨t', rfl⟩ := r'
        obtain ⟨t'', rfl⟩ := r''
        refine call_range_3 c0 ?_ (.inl (PyProof.noPylong_small c1))
        refine wpAny_pyIter_range (IsRange.new ..) c2 ?_
        have I2 : Inv X pins σ H1 { s1 with heap := s1.heap.push { cls := .type "range", data := .fields #[.int i t, .int j t', .int k t''] } } := I1.kept (t' := s1.toks) fun b o e => Heap.get?_push_of_some _ e
        refine pi_one (tk := s1.toks) I2 _ (turn_rangeC _ i k n) ?_ q
        have e1 : i + ((0 : Nat) : Int) * k = i := by simp
        have e2 : (n : Int) - ((0 : Nat) : Int) = Builtin.Range.rangeSize i j k := by rw [c3]; simp
        show IsRangeIter _ _ (i + ((0 : Nat) : Int) * k) ((n : Int) - ((0 : Nat) : Int)) k
        rw [e1, e2]
        exact Heap.get?_push_size _ rfl
end
theorem for_rangeC {lo c : Int} {n : Nat} {g : TG} {tb : TS} {D : Ends} {σ : St} {H : Hp} (Pv : Nat → St → Hp → Prop) (h0 : Pv 0 σ H)
    (hs : ∀ i σ H, i < n → Pv i σ H → g (.int (lo + (i : Nat) * c)) σ H fun σ2 H2 => tb { D with nx := Pv (i + 1), ct := Pv (i + 1), bk := D.nx } σ2 H2) (hd : ∀ σ H, Pv n σ H → D.nx σ H) :
    ∃ W : Nat → Nat → St → Hp → Prop, (∃ m, W 0 m σ H) ∧ ∀ i m σ H, W i m σ H →
      ((Itc lo c n).stop i H ∧ D.nx σ H) ∨ ((Itc lo c n).go i H ∧ ∃ N : St → Hp → Prop, (∀ σ' H', N σ' H' → ∃ m', m' < m ∧ W (i + 1) m' σ' H') ∧ ∀ x H', (Itc lo c n).yld i H x H' → g x σ H' fun σ2 H2 => tb { D with nx := N, ct := N, bk := D.nx } σ2 H2) := by
  refine ⟨fun i m σ H => m = n - i ∧ i ≤ n ∧ Pv i σ H, ⟨n, by simp, Nat.zero_le _, h0⟩, ?_⟩
  rintro i m σ H ⟨rfl, hi, p⟩
  by_cases hlt : i < n
  · refine .inr ⟨hlt, Pv (i + 1), fun σ' H' p' => ⟨n - (i + 1), by omega, rfl, hlt, p'⟩, fun x H' y => ?_⟩
    obtain ⟨e, y⟩ := y
    subst e y
    exact hs i σ _ hlt p
  · have e : i = n := by omega
    subst e
    exact .inl ⟨Nat.le_refl _, hd σ H p⟩
section
variable {X : Cx} {tg : Expr}
end
section
variable {prog : Program} {w : World} {A : Around} {E : Value → Shared → Prop} {s : Shared}
end
section
variable {X : Cx} {pins : List (Addr × Obj)} {σ : St} {H : Hp} {s : Shared} {d : Addr} {o : Obj}
end
section
variable {P : Program} {w : World} {K : PySem.W.Frag} {tg : Expr} {d : Addr} {o : Obj} {es : Array DictEntry} {ep : Nat}
end
section
variable {X : Cx} {tg e : Expr} {td : TE} {apos cpos : Pos}
end
def Ite (K : PySem.W.Frag) (a : Addr) : It :=
  ⟨fun i H => ∃ (xs : List V) (x : V), SqL K H a xs ∧ xs[i]? = some x, fun i H v H' => ∃ T x, v = .ref T ∧ H T = none ∧ H' = upd H T (.tup [.int (i : Nat), x]) ∧ ∀ xs, SqL K H a xs → xs[i]? = some x, fun i H => ∃ xs : List V, SqL K H a xs ∧ xs.length ≤ i⟩
theorem turn_enum {P : Program} {w : World} {K : PySem.W.Frag} {elts : List Expr} {kk : Nat} {tpos : Pos} (a e it : Addr) :
    Turn P w K (.Tuple elts kk tpos) (Ite K a) [e, it] e (fun i h => (∃ old, IsEnum h e it ((i : Nat) : Int) old) ∧ h.IsListIter it a i ∧ e ≠ it) where
  mem := by simp
  obj := fun i h st b hb => by
    obtain ⟨⟨old, he⟩, ⟨o, ho, hc, hd⟩, _⟩ := st
    have e' : b = e ∨ b = it := by simpa using hb
    rcases e' with z | z
    · rw [z]; exact ⟨_, he, fun v q => nomatch q⟩
    · rw [z]; exact ⟨o, ho, fun v q => by rw [hd] at q; cases q⟩
  keep := fun i h h' st k => let ⟨⟨old, he⟩, hi, hne⟩ := st; ⟨⟨old, k e (by simp) _ he⟩, hi.at fun o q => k it (by simp) o q, hne⟩
  item := by
    intro X hP hw hK hc i pins s σ H E I hf st hg
    subst hP hw hK
    obtain ⟨⟨old, he⟩, hit, hne⟩ := st
    obtain ⟨xs, x, hq, hx⟩ := hg
    obtain ⟨its, rv, p, hz⟩ := I.list hq
    obtain ⟨u, hu, ru⟩ := rv.get hx
    have hel : e < s.heap.objs.size := Heap.lt_size he
    have hil : it < s.heap.objs.size := by obtain ⟨_, q, _⟩ := hit; exact Heap.lt_size q
    refine wpAny_pyNext_enum_item he hit p.isList (x := u) (by simpa using hu) hne fun h' ho hit' hT hsz hk => ?_
    refine ⟨_, rfl, wpAny_letOwnedTupleGo_enum (s := { s with heap := h', toks := s.toks + 1 }) ho fun h'' he' sb => ?_⟩
    have hT2 : h''.get? s.heap.objs.size = some { cls := .type "tuple", data := .seq #[.int i s.toks, u] } := (sb.2 _ (Nat.ne_of_gt hel)).trans hT
    have new : ObjOk X.prog X.w (upd H s.heap.objs.size (.tup [.int (i : Nat), x])) h'' s.heap.objs.size (.tup [.int (i : Nat), x]) :=
      ⟨by show 2 ≤ sizeLine; decide, [.int i s.toks, u], .cons ⟨_, rfl⟩ (.cons ru .nil), ⟨_, hT2, rfl, _, rfl⟩⟩
    have I1 : Inv X pins σ (upd H s.heap.objs.size (.tup [.int (i : Nat), x])) { s with heap := h'', toks := s.toks + 1 } :=
      I.turnedNew (ch := [e, it]) (fun b ob hb q => (sb.2 b (fun z => hb (by simp [z]))).trans (hk b ob (fun z => hb (by simp [z])) (fun z => hb (by simp [z])) q)) hf (Nat.le_refl _) new
    refine ⟨.ref s.heap.objs.size, _, I1, rfl, ⟨_, x, rfl, I.hok.fresh (Nat.le_refl _), rfl, fun ys hy => by rw [I.list_inj hy hq]; exact hx⟩, ⟨⟨u, ?_⟩, hit'.at fun o q => (sb.2 it (Ne.symm hne)).trans q, hne⟩, fun b hb => ?_⟩
    · have e1 : ((i + 1 : Nat) : Int) = (i : Int) + 1 := by omega
      rw [e1]; exact he'
    · have hb' : b < s.heap.objs.size := by
        have e' : b = e ∨ b = it := by simpa using hb
        rcases e' with z | z
        · rw [z]; exact hel
        · rw [z]; exact hil
      rw [upd_ne (Nat.ne_of_lt hb')]
      exact (hf b hb).1
  done := by
    intro X hP hw hK hc i pins s σ H E I hf st hg
    subst hP hw hK
    obtain ⟨⟨old, he⟩, hit, hne⟩ := st
    obtain ⟨xs, hq, hx⟩ := hg
    obtain ⟨its, rv, p, hz⟩ := I.list hq
    obtain ⟨f0, f1, f2, f3, f4, f5⟩ := hf it (by simp)
    have hl := rv.length
    exact wpAny_pyNext_enum_end (I.ok.hd hc) he hit p.isList (by simp; omega) fun h' eb => ⟨rfl, I.turned (t' := s.toks) (fun b o hb q => eb b o hb q) f0 f1 f3 f4 f5⟩
  self := fun A i s Q E st h => let ⟨⟨_, he⟩, _⟩ := st; wpAny_pyIter_enum he h
def iEnum (K : PySem.W.Frag) (ta : TA) : TI := fun σ H R => ta σ H fun vs H1 => ∃ a xs, vs = [.ref a] ∧ SqL K H1 a xs ∧ R (Ite K a) H1
theorem pi_enum {X : Cx} {e : Expr} {ta : TA} {p pos tpos : Pos} {elts : List Expr} {kk : Nat} (hg : Gl X "enumerate") (hm : X.mg "enumerate" = none) (ha : PA X [e] ta) (hs : starEach [e] X.env = [(false, eval e X.env)] := by rfl) :
    PI X (.Tuple elts kk tpos) (.Call (.Name "enumerate" p) [e] [] pos) (iEnum X.K ta) := by
  intro pins s σ H R I h
  refine Call_ (ld_blt I hg hm boot_enumerate (PyProof.Rows.callWith_type1 (thn (ha pos pins s σ H _ I h) fun us s1 ⟨vs, H1, I1, r1, q1⟩ => ?_) hs rfl))
  obtain ⟨a, xs, ex, hq, q⟩ := q1
  subst ex
  cases r1 with
  | cons r rr =>
    cases rr
    cases r
    obtain ⟨its, rv, p', hz⟩ := I1.list hq
    refine call_enumerate_list p'.isList fun h' he hit hsz hk => wpAny_pyIter_enum he ?_
    have I2 : Inv X pins σ H1 { s1 with heap := h' } := I1.kept (t' := s1.toks) hk
    refine ⟨s1.heap.objs.size + 1, [s1.heap.objs.size + 1, s1.heap.objs.size], _, _, H1, rfl, I2, turn_enum a (s1.heap.objs.size + 1) s1.heap.objs.size, ⟨⟨.none, he⟩, hit, Nat.succ_ne_self _⟩, fun b hb => ?_, q⟩
    have e' : b = s1.heap.objs.size + 1 ∨ b = s1.heap.objs.size := by simpa using hb
    have hle : s1.heap.objs.size ≤ b := by
      rcases e' with z | z
      · rw [z]; exact Nat.le_add_right _ _
      · rw [z]; exact Nat.le_refl _
    exact I1.fpOk hle (I1.hok.fresh hle)
theorem boot_zip5 : bootBuiltins "zip" = some (.type "zip") := by decide +kernel
def Itz (K : PySem.W.Frag) (a b : Addr) : It :=
  ⟨fun i H => ∃ (xs ys : List V) (x y : V), SqL K H a xs ∧ SqL K H b ys ∧ xs[i]? = some x ∧ ys[i]? = some y,
    fun i H v H' => ∃ T x y, v = .ref T ∧ H T = none ∧ H' = upd H T (.tup [x, y]) ∧ (∀ xs, SqL K H a xs → xs[i]? = some x) ∧ ∀ ys, SqL K H b ys → ys[i]? = some y,
    fun i H => ∃ xs ys : List V, SqL K H a xs ∧ SqL K H b ys ∧ (xs.length ≤ i ∨ ys.length ≤ i)⟩
theorem turn_zip {P : Program} {w : World} {K : PySem.W.Frag} {elts : List Expr} {kk : Nat} {tpos : Pos} {a b z TI TO i1 i2 : Addr} (D : ZipApart z TI TO i1 i2 a b) :
    Turn P w K (.Tuple elts kk tpos) (Itz K a b) [z, TI, TO, i1, i2] z (fun i h => IsZip h z TI TO .none ∧ IsPair h TI (.ref i1) (.ref i2) ∧ (∃ x y, IsPair h TO x y) ∧ h.IsListIter i1 a i ∧ h.IsListIter i2 b i) where
  mem := by simp
  obj := fun i h st c hc => by
    obtain ⟨hz, hTI, ⟨x, y, hTO⟩, ⟨o1, e1, _, d1⟩, ⟨o2, e2, _, d2⟩⟩ := st
    have e' : c = z ∨ c = TI ∨ c = TO ∨ c = i1 ∨ c = i2 := by simpa using hc
    rcases e' with q | q | q | q | q
    · rw [q]; exact ⟨_, hz, fun v q => nomatch q⟩
    · rw [q]; exact ⟨_, hTI, fun v q => nomatch q⟩
    · rw [q]; exact ⟨_, hTO, fun v q => nomatch q⟩
    · rw [q]; exact ⟨o1, e1, fun v q => by rw [d1] at q; cases q⟩
    · rw [q]; exact ⟨o2, e2, fun v q => by rw [d2] at q; cases q⟩
  keep := fun i h h' st k => by
    obtain ⟨hz, hTI, ⟨x, y, hTO⟩, h1, h2⟩ := st
    exact ⟨k z (by simp) _ hz, k TI (by simp) _ hTI, ⟨x, y, k TO (by simp) _ hTO⟩, h1.at fun o q => k i1 (by simp) o q, h2.at fun o q => k i2 (by simp) o q⟩
  item := by
    intro X hP hw hK hc i pins s σ H E I hf st hg
    subst hP hw hK
    obtain ⟨hz, hTI, ⟨x0, y0, hTO⟩, h1, h2⟩ := st
    obtain ⟨xs, ys, x, y, hqx, hqy, hx, hy⟩ := hg
    obtain ⟨its, rv, p, _⟩ := I.list hqx
    obtain ⟨its2, rv2, p2, _⟩ := I.list hqy
    obtain ⟨u, hu, ru⟩ := rv.get hx
    obtain ⟨u2, hu2, ru2⟩ := rv2.get hy
    have hzl : z < s.heap.objs.size := Heap.lt_size hz
    refine wpAny_pyNext_zip_item D hz hTI hTO h1 h2 p.isList p2.isList (x := u) (y := u2) (by simpa using hu) (by simpa using hu2) fun h' z' TO' h1' h2' hT hsz hk => ?_
    refine ⟨_, rfl, wpAny_letOwnedTupleGo_zip (s := { s with heap := h' }) z' fun h'' z'' sb => ?_⟩
    have hT2 : h''.get? s.heap.objs.size = some { cls := .type "tuple", data := .seq #[u, u2] } := (sb.2 _ (Nat.ne_of_gt hzl)).trans hT
    have new : ObjOk X.prog X.w (upd H s.heap.objs.size (.tup [x, y])) h'' s.heap.objs.size (.tup [x, y]) :=
      ⟨by show 2 ≤ sizeLine; decide, [u, u2], .cons ru (.cons ru2 .nil), ⟨_, hT2, rfl, _, rfl⟩⟩
    have I1 : Inv X pins σ (upd H s.heap.objs.size (.tup [x, y])) { s with heap := h'' } :=
      I.turnedNew (t' := s.toks) (ch := [z, TI, TO, i1, i2]) (fun c o hb q => (sb.2 c (fun q' => hb (by simp [q']))).trans (hk c o (fun q' => hb (by simp [q'])) (fun q' => hb (by simp [q'])) (fun q' => hb (by simp [q'])) (fun q' => hb (by simp [q'])) q)) hf (Nat.le_refl _) new
    refine ⟨.ref s.heap.objs.size, _, I1, rfl, ⟨_, x, y, rfl, I.hok.fresh (Nat.le_refl _), rfl, fun l hl => by rw [I.list_inj hl hqx]; exact hx, fun l hl => by rw [I.list_inj hl hqy]; exact hy⟩, ⟨z'', ?_, ⟨u, u2, ?_⟩, ?_, ?_⟩, fun c hcm => ?_⟩
    · exact (sb.2 _ D.TIz).trans (hk _ _ D.TIz D.TITO D.TIi1 D.TIi2 hTI)
    · exact (sb.2 _ D.TOz).trans TO'
    · exact h1'.at fun o q => (sb.2 _ D.i1z).trans q
    · exact h2'.at fun o q => (sb.2 _ D.i2z).trans q
    · have hlt : c < s.heap.objs.size := by
        have e' : c = z ∨ c = TI ∨ c = TO ∨ c = i1 ∨ c = i2 := by simpa using hcm
        rcases e' with q | q | q | q | q
        · rw [q]; exact hzl
        · rw [q]; exact Heap.lt_size hTI
        · rw [q]; exact Heap.lt_size hTO
        · rw [q]; obtain ⟨_, e1, _⟩ := h1; exact Heap.lt_size e1
        · rw [q]; obtain ⟨_, e2, _⟩ := h2; exact Heap.lt_size e2
      rw [upd_ne (Nat.ne_of_lt hlt)]
      exact (hf c hcm).1
  done := by
    intro X hP hw hK hc i pins s σ H E I hf st hg
    subst hP hw hK
    obtain ⟨hz, hTI, ⟨x0, y0, hTO⟩, h1, h2⟩ := st
    obtain ⟨xs, ys, hqx, hqy, hend⟩ := hg
    obtain ⟨its, rv, p, _⟩ := I.list hqx
    obtain ⟨its2, rv2, p2, _⟩ := I.list hqy
    have l1 := rv.length
    have l2 := rv2.length
    have he : its.toArray[i]? = none ∨ its2.toArray[i]? = none := by
      rcases hend with q | q
      · exact .inl (by simp; omega)
      · exact .inr (by simp; omega)
    exact wpAny_pyNext_zip_end (I.ok.hd hc) D hz hTI hTO h1 h2 p.isList p2.isList he fun h' hk => ⟨rfl, I.turnedL (t' := s.toks) (ch := [z, TI, TO, i1, i2]) (fun c o hb q =>
      hk c o (fun q' => hb (by simp [q'])) (fun q' => hb (by simp [q'])) (fun q' => hb (by simp [q'])) (fun q' => hb (by simp [q'])) q) hf⟩
  self := fun A i s Q E st h => wpAny_pyIter_zip st.1 h
def iZip (K : PySem.W.Frag) (ta : TA) : TI := fun σ H R => ta σ H fun vs H1 => ∃ a b xs ys, vs = [.ref a, .ref b] ∧ SqL K H1 a xs ∧ SqL K H1 b ys ∧ R (Itz K a b) H1
theorem pi_zip {X : Cx} {e e2 : Expr} {ta : TA} {p pos tpos : Pos} {elts : List Expr} {kk : Nat} (hg : Gl X "zip") (hm : X.mg "zip" = none) (ha : PA X [e, e2] ta)
    (hs : starEach [e, e2] X.env = (false, eval e X.env) :: starEach [e2] X.env := by rfl) (hpl : (backTo pos (starEach [e2] X.env)).any (·.1) = false := by rfl) :
    PI X (.Tuple elts kk tpos) (.Call (.Name "zip" p) [e, e2] [] pos) (iZip X.K ta) := by
  intro pins s σ H R I h
  refine Call_ (ld_blt I hg hm boot_zip5 (PyProof.Rows.callWith_type1 (thn (ha pos pins s σ H _ I h) fun us s1 ⟨vs, H1, I1, r1, q1⟩ => ?_) hs hpl))
  obtain ⟨a, b, xs, ys, ex, hqx, hqy, q⟩ := q1
  subst ex
  cases r1 with
  | cons r rr =>
    cases rr with
    | cons r' rr =>
      cases rr
      cases r
      cases r'
      obtain ⟨its, rv, p1, _⟩ := I1.list hqx
      obtain ⟨its2, rv2, p2, _⟩ := I1.list hqy
      have la : a < s1.heap.objs.size := p1.lt
      have lb : b < s1.heap.objs.size := p2.lt
      refine call_zip_2 p1.isList p2.isList fun h' hz hTI hTO h1 h2 hsz hk => wpAny_pyIter_zip hz ?_
      have I2 : Inv X pins σ H1 { s1 with heap := h' } := I1.kept (t' := s1.toks) hk
      refine ⟨s1.heap.objs.size + 4, [s1.heap.objs.size + 4, s1.heap.objs.size + 2, s1.heap.objs.size + 3, s1.heap.objs.size, s1.heap.objs.size + 1], _, _, H1, rfl, I2, turn_zip (PySem.W.ktu_apart s1.heap.objs.size a b la lb), ⟨hz, hTI, ⟨_, _, hTO⟩, h1, h2⟩, fun c hcm => ?_, q⟩
      have e' : c = s1.heap.objs.size + 4 ∨ c = s1.heap.objs.size + 2 ∨ c = s1.heap.objs.size + 3 ∨ c = s1.heap.objs.size ∨ c = s1.heap.objs.size + 1 := by simpa using hcm
      have hle : s1.heap.objs.size ≤ c := by
        rcases e' with z | z | z | z | z
        · rw [z]; exact Nat.le_add_right _ _
        · rw [z]; exact Nat.le_add_right _ _
        · rw [z]; exact Nat.le_add_right _ _
        · rw [z]; exact Nat.le_refl _
        · rw [z]; exact Nat.le_add_right _ _
      exact I1.fpOk hle (I1.hok.fresh hle)
end L2
section 
namespace Bits
open PySem PyProof.Rows
end Bits
end 
section 
namespace TL
open PySem PySem.Builtin PySem.Builtin.Str PySem.StrLaws
end TL
end 
namespace L2
open PySem PySem.Spec PyProof.Rows
section
variable {X : Cx} {pins : List (Addr × Obj)} {σ : St} {H : Hp} {s : Shared} {Q : VK}
end
section
variable {X : Cx}
end
section
variable {X : Cx} {o e : Expr} {to te : TE}
end
end L2
namespace L2
open PySem PySem.Spec PyProof.Rows
section
variable {X : Cx}
end
end L2
namespace Att
open PySem PySem.W PySem.Calls PyProof.Rows
section
variable {prog : Program} {w : World} {A : Around} {E : Value → Shared → Prop} {s : Shared} {K : Frag}
end
end Att
namespace L2
open PySem PySem.Spec PyProof.Rows
end L2
namespace L2
open PySem PySem.Spec PyProof.Rows
abbrev KOf {K : PySem.W.Frag} {h : Heap} (_ : K.In h) : PySem.W.Frag := K
end L2
namespace L2
open PySem PySem.Spec PyProof.Rows
def inClass (s : Stmt) (j : Nat) : Stmt := match s with
  | .ClassDef _ _ _ body _ _ _ _ _ _ _ => body.getD j (.Pass ⟨0, 0, 0, 0⟩)
  | _ => .Pass ⟨0, 0, 0, 0⟩
def defArgs (s : Stmt) : Arguments := match s with
  | .FunctionDef _ a _ _ _ _ _ _ _ _ => a
  | _ => { posonlyargs := [], args := [], vararg := none, kwonlyargs := [], kw_defaults := [], kwarg := none, defaults := [] }
def defBody (s : Stmt) : List Stmt := match s with
  | .FunctionDef _ _ b _ _ _ _ _ _ _ => b
  | _ => []
def defScope (s : Stmt) : Scope := match s with
  | .FunctionDef _ _ _ _ _ _ sc _ _ _ => sc
  | _ => { kind := .function, names := [], isGenerator := false, isCoroutine := false }
abbrev CX0 : CXT := fun _ _ _ _ _ _ => False
abbrev E0 : XK := fun _ _ _ => False
theorem pass0 {X : Cx} : Passes CX0 X E0 := fun _ _ _ _ _ _ _ h => h.elim
structure Fun (K : PySem.W.Frag) (x qual : Str) (st : Stmt) (f : Addr) (fd : FuncData) : Prop where
  ex : ∃ (oc : Value) (od : Option Addr) (kV doc pm : Value) (an : Option Addr) (cdv ct : Value) (osl : Array (Option Value)),
    fd = PySem.W.fnOf x qual (defArgs st) (defBody st) (defScope st) .none kV doc pm an cdv ct ∧ K.lookup f = some ⟨oc, od, .func fd, osl⟩ ∧ PySem.W.codeIn K cdv qual = true
  kp : PySem.W.keepIn K (.ref f) = true
section
variable {P : Program} {w : World} {K : PySem.W.Frag} {mg : Str → Option Value} {base : Heap}
theorem Fun.ok {x qual : Str} {st : Stmt} {f : Addr} {fd : FuncData} {N ps : List Str} {k : Nat} {sp : Sp} (F : Fun K x qual st f fd) (S : FnScope N ps (defScope st)) (len : ∀ vs H Q E, sp vs H Q E → vs.length = ps.length)
    (hbody : ∀ (cdv : Value) (A : Around) (outer : List Env) (s : Shared) (H : Hp) (vs : List V) (Q : VK) (E : XK), Room k (A.deeper (envOfC qual (defScope st) s.heap.objs.size f cdv)) → sp vs H Q E →
      ∃ t, PSs (cxOf CX0 P w K mg base N qual (defScope st) f cdv A outer s H E).nox (defBody st) t ∧ t { nx := fun _ H' => Q .non H', rt := Q } (start N vs) H) : FnOk P w K mg base CX0 (k + 1) f fd ps sp := by
  obtain ⟨oc, od, kV, doc, pm, an, cdv, ct, osl, rfl, lk, hcd⟩ := F.ex
  refine fn_of lk hcd S len fun A outer s H vs Q E hr hsp => ?_
  obtain ⟨t, h, q⟩ := hbody cdv A outer s H vs Q E hr hsp
  exact ⟨t, h.nox, q⟩
theorem Fun.binds {x qual : Str} {st : Stmt} {f : Addr} {fd : FuncData} {ps : List Str} (F : Fun K x qual st f fd)
    (h : ∀ (kV doc pm : Value) (an : Option Addr) (cdv ct : Value) (us : List Value), us.length = ps.length → bindArgs (PySem.W.fnOf x qual (defArgs st) (defBody st) (defScope st) .none kV doc pm an cdv ct) ⟨us, []⟩ = pure (ps.zip us)) : Binds K fd ps [] := by
  obtain ⟨oc, od, kV, doc, pm, an, cdv, ct, osl, rfl, lk, hcd⟩ := F.ex
  exact .all (h kV doc pm an cdv ct)
theorem fun_mk {x qual : Str} {st : Stmt} {f : Addr} {oc : Value} {od an : Option Addr} {osl : Array (Option Value)} {kV doc pm cdv ct : Value} (l : K.lookup f = some ⟨oc, od, .func (PySem.W.fnOf x qual (defArgs st) (defBody st) (defScope st) .none kV doc pm an cdv ct), osl⟩)
    (c : PySem.W.codeIn K cdv qual = true) (k : PySem.W.keepIn K (.ref f) = true) : Fun K x qual st f (PySem.W.fnOf x qual (defArgs st) (defBody st) (defScope st) .none kV doc pm an cdv ct) := ⟨⟨oc, od, kV, doc, pm, an, cdv, ct, osl, rfl, l, c⟩, k⟩
end
section
variable {X : Cx}
theorem pv (i : Nat) {x : Str} {pos : Pos} (hN : X.N[i]? = some x := by rfl) (hv : Vis X.env.scope x := by first | exact Or.inl rfl | exact Or.inr (Or.inl rfl) | exact Or.inr (Or.inr rfl)) (hd : (x == ("__debug__" : Str)) = false := by decide)
    (hcd : (x == ("__classdict__" : Str)) = false := by decide) : PE X (.Name x pos) (tVar i) := pe_var hN hv hd hcd
end
theorem iteF {A B : Prop} (h : B) : if false = true then A else B := by
  rw [if_neg Bool.false_ne_true]
  exact h
theorem iteT {A B : Prop} (h : A) : if true = true then A else B := by
  rw [if_pos rfl]
  exact h
theorem ite2 {c A B : Prop} [Decidable c] (h1 : c → A) (h2 : ¬ c → B) : if c then A else B := by
  by_cases h : c
  · rw [if_pos h]
    exact h1 h
  · rw [if_neg h]
    exact h2 h
def Same (H H' : Hp) : Prop := ∀ b o, H b = some o → H' b = some o
theorem Same.refl (H : Hp) : Same H H := fun _ _ h => h
theorem Same.trans {H H1 H2 : Hp} (a : Same H H1) (b : Same H1 H2) : Same H H2 := fun c o h => b c o (a c o h)
theorem Same.free {H H' : Hp} (e : Same H H') {l : Addr} (h : H' l = Option.none) : H l = Option.none := by
  cases q : H l with
  | none => rfl
  | some o =>
    rw [e l o q] at h
    cases h
theorem Same.seq {K : PySem.W.Frag} {H H' : Hp} {a : Addr} {xs : List V} (e : Same H H') (h : SqL K H a xs) : SqL K H' a xs := by
  rcases h with (h | ⟨o, h⟩) | h
  · exact .inl (.inl (e _ _ h))
  · exact .inl (.inr ⟨o, e _ _ h⟩)
  · exact .inr h
section
variable {κ : Type} [DecidableEq κ]
end
theorem at_of {xs : List V} {z : Int} {j : Nat} {v : V} (e : z = (j : Int)) (h : xs[j]? = some v) : atI xs z = some v := by
  rw [e]
  exact atI_nat h
theorem Same.made {H H1 : Hp} {x dx C : Addr} (nx : H x = Option.none) (nd : H dx = Option.none) (k : ∀ b o, (upd (upd H dx (.own x)) x (.ins C dx [])) b = some o → b ≠ x → H1 b = some o) : Same H H1 := fun b o e =>
  k b o (by rw [upd_ne (ne_of_none e nx), upd_ne (ne_of_none e nd)]; exact e) (ne_of_none e nx)
end L2
set_option maxHeartbeats 2000000
namespace L2
open PySem PySem.Spec PyProof.Rows
open PySem.W (WData Codec OpenSpec Well WellAll ReadsW ReadsAllW)
mutual
inductive Dw (K : PySem.W.Frag) (H : Hp) : V → WData → Prop
  | non : Dw K H .non .none
  | bl (b : Bool) : Dw K H (.bl b) (.bool b)
  | int (i : Int) : Dw K H (.int i) (.int i)
  | str (x : Str) : Dw K H (.str x) (.str x)
  | byt (b : Array UInt8) : Dw K H (.byt b) (.bytes b.toList)
  | lst {a : Addr} {xs : List V} {ds : List WData} : SqL K H a xs → DwAll K H xs ds → Dw K H (.ref a) (.list ds)
  | tup {a : Addr} {xs : List V} {ds : List WData} : SqT K H a xs → DwAll K H xs ds → Dw K H (.ref a) (.tuple ds)
inductive DwAll (K : PySem.W.Frag) (H : Hp) : List V → List WData → Prop
  | nil : DwAll K H [] []
  | cons {v : V} {vs : List V} {d : WData} {ds : List WData} : Dw K H v d → DwAll K H vs ds → DwAll K H (v :: vs) (d :: ds)
end
theorem dw_ints {K : PySem.W.Frag} {H : Hp} : ∀ ns : List Int, DwAll K H (ns.map V.int) (ns.map WData.int)
  | [] => .nil
  | n :: r => .cons (.int n) (dw_ints r)
theorem ints_dw {K : PySem.W.Frag} {H : Hp} : ∀ (ns : List Int) (xs : List V), DwAll K H xs (ns.map WData.int) → xs = ns.map V.int
  | [], xs, h => by
    cases h
    rfl
  | n :: r, xs, h => by
    cases h with
    | cons h1 h2 =>
      cases h1
      rw [ints_dw r _ h2] <;> rfl
section
variable {P : Program} {w : World} {K : PySem.W.Frag} {H : Hp} {h : Heap} {R : PySem.W.WRecords} {cl : Str → Option Addr}
theorem sqL_at {a : Addr} {xs : List V} (hok : HOk P w H h) (KX : K.In h) (q : SqL K H a xs) : ∃ (its : List Value) (o : Obj) (n : Nat), Vals xs its ∧ h.get? a = some o ∧ o.cls = .type "list" ∧ o.data = .seq its.toArray n := by
  rcases q with q | ⟨o, its, n, e, hc, _, hd, _, hv⟩
  · obtain ⟨_, its, n, hv, e⟩ := (show ObjOk P w H h a (.lst xs) from q.ok hok)
    exact ⟨its, _, n, hv, e, rfl, rfl⟩
  · exact ⟨its.toList, o, n, hv, KX _ _ e, hc, by simp [hd]⟩
theorem sqT_at {a : Addr} {xs : List V} (hok : HOk P w H h) (KX : K.In h) (q : SqT K H a xs) : ∃ (its : List Value) (o : Obj) (n : Nat), Vals xs its ∧ h.get? a = some o ∧ o.cls = .type "tuple" ∧ o.data = .seq its.toArray n := by
  rcases q with q | ⟨o, its, n, e, hc, hd, _, hv⟩
  · obtain ⟨_, its, hv, o, e, hc, n, hd⟩ := (show ObjOk P w H h a (.tup xs) from q.ok hok)
    exact ⟨its, o, n, hv, e, hc, hd⟩
  · exact ⟨its.toList, o, n, hv, KX _ _ e, hc, by simp [hd]⟩
mutual
theorem Dw.reads (hok : HOk P w H h) (KX : K.In h) : ∀ (d : WData) (v : V) (u : Value), Dw K H v d → RelV v u → ∃ as, ReadsW R cl h u d as
  | .none, _, _, x, r => by
    cases x
    cases r
    exact ⟨_, ReadsW.none⟩
  | .bool b, _, _, x, r => by
    cases x
    cases r
    exact ⟨_, ReadsW.bool b⟩
  | .int i, _, _, x, r => by
    cases x
    obtain ⟨t, rfl⟩ := r
    exact ⟨_, ReadsW.int i t⟩
  | .str s, _, _, x, r => by
    cases x
    obtain ⟨t, rfl⟩ := r
    exact ⟨_, ReadsW.str s t⟩
  | .bytes b, _, _, x, r => by
    cases x
    obtain ⟨t, rfl⟩ := r
    exact ⟨_, ReadsW.bytes _ t⟩
  | .list ds, _, _, x, r => by
    cases x with
    | lst hs ha =>
      cases r
      obtain ⟨its, o, n, rv, ho, hc, hd⟩ := sqL_at hok KX hs
      obtain ⟨as, hr⟩ := Dw.readsAll hok KX ds _ its ha rv
      exact ⟨_, ReadsW.list ho hc hd hr⟩
  | .tuple ds, _, _, x, r => by
    cases x with
    | tup hs ha =>
      cases r
      obtain ⟨its, o, n, rv, ho, hc, hd⟩ := sqT_at hok KX hs
      obtain ⟨as, hr⟩ := Dw.readsAll hok KX ds _ its ha rv
      exact ⟨_, ReadsW.tuple ho hc hd hr⟩
  | .float _, _, _, x, _ => by cases x
  | .dict _, _, _, x, _ => by cases x
  | .bytearray _, _, _, x, _ => by cases x
  | .set _, _, _, x, _ => by cases x
  | .frozenset _, _, _, x, _ => by cases x
  | .obj _ _, _, _, x, _ => by cases x
theorem Dw.readsAll (hok : HOk P w H h) (KX : K.In h) : ∀ (ds : List WData) (vs : List V) (us : List Value), DwAll K H vs ds → Vals vs us → ∃ as, ReadsAllW R cl h us ds as
  | [], _, _, x, r => by
    cases x
    cases r
    exact ⟨_, ReadsAllW.nil⟩
  | d :: ds, _, _, x, r => by
    cases x with
    | cons h1 h2 =>
      cases r with
      | cons r1 r2 =>
        obtain ⟨as, q1⟩ := Dw.reads hok KX d _ _ h1 r1
        obtain ⟨bs, q2⟩ := Dw.readsAll hok KX ds _ _ h2 r2
        exact ⟨_, ReadsAllW.cons q1 q2⟩
end
end
mutual
def plW : WData → Bool
  | .none => true
  | .bool _ => true
  | .int _ => true
  | .str _ => true
  | .bytes _ => true
  | .list xs => plWs xs
  | .tuple xs => plWs xs
  | _ => false
def plWs : List WData → Bool
  | [] => true
  | x :: r => plW x && plWs r
end
theorem plWs_map {α : Type} {f : α → WData} (h : ∀ a, plW (f a) = true) : ∀ l : List α, plWs (l.map f) = true
  | [] => rfl
  | x :: r => by
    show (plW (f x) && plWs (r.map f)) = true
    rw [h x, plWs_map h r] <;> rfl
theorem pl_enc : ∀ (c : Codec) (a : c.denote), plW (c.enc a) = true
  | .unit, _ => rfl
  | .bool, _ => rfl
  | .int _ _, _ => rfl
  | .nat _ _, _ => rfl
  | .u8, _ => rfl
  | .bytes _ _, _ => rfl
  | .text _ _ _ _, _ => rfl
  | .list _ _ c, a => plWs_map (fun x => pl_enc c x) a
  | .pair c d, a => by
    show (plW (c.enc a.1) && (plW (d.enc a.2) && true)) = true
    rw [pl_enc c a.1, pl_enc d a.2] <;> rfl
  | .triple c d e, a => by
    show (plW (c.enc a.1) && (plW (d.enc a.2.1) && (plW (e.enc a.2.2) && true))) = true
    rw [pl_enc c a.1, pl_enc d a.2.1, pl_enc e a.2.2] <;> rfl
  | .option c, none => rfl
  | .option c, some x => pl_enc c x
theorem pl_encAll : ∀ (cs : List Codec) (a : Codec.denoteAll cs), plWs (Codec.encAll cs a) = true
  | [], _ => rfl
  | c :: cs, a => by
    show (plW (c.enc a.1) && plWs (Codec.encAll cs a.2)) = true
    rw [pl_enc c a.1, pl_encAll cs a.2] <;> rfl
theorem weight_mem : ∀ {xs : List WData} {d : WData}, d ∈ xs → d.weight ≤ WData.weightAll xs
  | [], d, h => absurd h (by simp)
  | x :: r, d, h => by
    show d.weight ≤ x.weight + 1 + WData.weightAll r
    rcases List.mem_cons.mp h with e | m
    · rw [e]
      omega
    · have z := weight_mem m
      omega
def toV : Value → V
  | .none => .non
  | .bool b => .bl b
  | .int i _ => .int i
  | .str x _ => .str x
  | .bytes b _ => .byt b
  | .ref a => .ref a
  | _ => .non
def OkU (A : List Addr) : Value → Prop
  | .none => True
  | .bool _ => True
  | .int _ _ => True
  | .str _ _ => True
  | .bytes _ _ => True
  | .ref a => a ∈ A
  | _ => False
theorem OkU.mono {A B : List Addr} (h : ∀ a ∈ A, a ∈ B) : ∀ {u : Value}, OkU A u → OkU B u := fun {u} x => by
  cases u with
  | ref a => exact h a x
  | none => trivial
  | bool b => trivial
  | int i t => trivial
  | str s t => trivial
  | bytes b t => trivial
  | _ => exact False.elim x
theorem relV_toV {A : List Addr} {u : Value} (x : OkU A u) : RelV (toV u) u := by
  cases u with
  | ref a => rfl
  | none => rfl
  | bool b => rfl
  | int i t => exact ⟨t, rfl⟩
  | str s t => exact ⟨t, rfl⟩
  | bytes b t => exact ⟨t, rfl⟩
  | _ => exact False.elim x
theorem vals_toV {A : List Addr} : ∀ {vs : List Value}, (∀ u ∈ vs, OkU A u) → Vals (vs.map toV) vs
  | [], _ => .nil
  | u :: r, h => .cons (relV_toV (h u (List.mem_cons_self ..))) (vals_toV fun x hx => h x (List.mem_cons_of_mem _ hx))
def ArgOb (h : Heap) (A : List Addr) (a : Addr) : Prop := ∃ vs : List Value, vs.length ≤ sizeLine ∧ (∀ u ∈ vs, OkU A u) ∧
  (h.get? a = some { cls := .type "list", data := .seq vs.toArray } ∨ h.get? a = some { cls := .type "tuple", data := .seq vs.toArray })
theorem ArgOb.mono {h : Heap} {A B : List Addr} {a : Addr} (k : ∀ a ∈ A, a ∈ B) (x : ArgOb h A a) : ArgOb h B a := by
  obtain ⟨vs, h1, h2, h3⟩ := x
  exact ⟨vs, h1, fun u hu => (h2 u hu).mono k, h3⟩
theorem wellAll_len {P : Params} {h : Heap} : ∀ {vs : List Value} {ds : List WData}, WellAll P h vs ds → vs.length = ds.length
  | _, _, .nil => rfl
  | _, _, .cons _ b => by
    show _ + 1 = _ + 1
    rw [wellAll_len b]
theorem well_list {P : Params} {h : Heap} {v : Value} {ds : List WData} (x : Well P h v (.list ds)) : ∃ (a : Addr) (vs : List Value), v = .ref a ∧ h.get? a = some { cls := .type "list", data := .seq vs.toArray } ∧ WellAll P h vs ds := by
  cases x with
  | list ho hall => exact ⟨_, _, rfl, ho, hall⟩
theorem well_tuple {P : Params} {h : Heap} {v : Value} {ds : List WData} (x : Well P h v (.tuple ds)) : ∃ (a : Addr) (vs : List Value), v = .ref a ∧ h.get? a = some { cls := .type "tuple", data := .seq vs.toArray } ∧ WellAll P h vs ds := by
  cases x with
  | tuple ho hall => exact ⟨_, _, rfl, ho, hall⟩
theorem well_cons {P : Params} {h : Heap} {us : List Value} {d : WData} {ds : List WData} (x : WellAll P h us (d :: ds)) : ∃ (v : Value) (vs : List Value), us = v :: vs ∧ Well P h v d ∧ WellAll P h vs ds := by
  cases x with
  | cons a b => exact ⟨_, _, rfl, a, b⟩
theorem line_of {n : Nat} (h : n ≤ 1048576) : n ≤ sizeLine := Nat.le_trans h (by decide)
section
variable {P : Params} {h : Heap}
mutual
theorem area_one : ∀ (d : WData) (v : Value), Well P h v d → plW d = true → d.weight ≤ 1048576 → ∃ A : List Addr, OkU A v ∧ ∀ a ∈ A, ArgOb h A a
  | .none, _, x, _, _ => by
    cases x
    exact ⟨[], trivial, fun a m => absurd m (by simp)⟩
  | .bool b, _, x, _, _ => by
    cases x
    exact ⟨[], trivial, fun a m => absurd m (by simp)⟩
  | .int i, _, x, _, _ => by
    cases x
    exact ⟨[], trivial, fun a m => absurd m (by simp)⟩
  | .str s, _, x, _, _ => by
    cases x
    exact ⟨[], trivial, fun a m => absurd m (by simp)⟩
  | .bytes b, _, x, _, _ => by
    cases x
    exact ⟨[], trivial, fun a m => absurd m (by simp)⟩
  | .list ds, _, x, p, z => by
    obtain ⟨a, vs, rfl, ho, hall⟩ := well_list x
    have z2 : WData.weightAll ds ≤ 1048576 := z
    obtain ⟨A, h1, h2⟩ := area_all ds _ hall p fun d hd => Nat.le_trans (weight_mem hd) z2
    have k : ∀ b ∈ A, b ∈ a :: A := fun b hb => List.mem_cons_of_mem _ hb
    refine ⟨a :: A, List.mem_cons_self .., fun b hb => ?_⟩
    rcases List.mem_cons.mp hb with e | m
    · rw [e]
      exact ⟨vs, line_of (by rw [wellAll_len hall]; exact Nat.le_trans (PySem.W.length_le_weightAllW ds) z2), fun u hu => (h1 u hu).mono k, .inl ho⟩
    · exact (h2 b m).mono k
  | .tuple ds, _, x, p, z => by
    obtain ⟨a, vs, rfl, ho, hall⟩ := well_tuple x
    have z2 : WData.weightAll ds ≤ 1048576 := z
    obtain ⟨A, h1, h2⟩ := area_all ds _ hall p fun d hd => Nat.le_trans (weight_mem hd) z2
    have k : ∀ b ∈ A, b ∈ a :: A := fun b hb => List.mem_cons_of_mem _ hb
    refine ⟨a :: A, List.mem_cons_self .., fun b hb => ?_⟩
    rcases List.mem_cons.mp hb with e | m
    · rw [e]
      exact ⟨vs, line_of (by rw [wellAll_len hall]; exact Nat.le_trans (PySem.W.length_le_weightAllW ds) z2), fun u hu => (h1 u hu).mono k, .inr ho⟩
    · exact (h2 b m).mono k
  | .float _, _, _, p, _ => Bool.noConfusion (show false = true from p)
  | .dict _, _, _, p, _ => Bool.noConfusion (show false = true from p)
  | .bytearray _, _, _, p, _ => Bool.noConfusion (show false = true from p)
  | .set _, _, _, p, _ => Bool.noConfusion (show false = true from p)
  | .frozenset _, _, _, p, _ => Bool.noConfusion (show false = true from p)
  | .obj _ _, _, _, p, _ => Bool.noConfusion (show false = true from p)
theorem area_all : ∀ (ds : List WData) (vs : List Value), WellAll P h vs ds → plWs ds = true → (∀ d ∈ ds, d.weight ≤ 1048576) → ∃ A : List Addr, (∀ u ∈ vs, OkU A u) ∧ ∀ a ∈ A, ArgOb h A a
  | [], _, x, _, _ => by
    cases x
    exact ⟨[], fun u m => absurd m (by simp), fun a m => absurd m (by simp)⟩
  | d :: ds, _, x, p, z => by
    obtain ⟨v, vs, rfl, x1, x2⟩ := well_cons x
    have q : plW d = true ∧ plWs ds = true := Bool.and_eq_true_iff.mp p
    obtain ⟨A, a1, a2⟩ := area_one d v x1 q.1 (z d (List.mem_cons_self ..))
    obtain ⟨B, b1, b2⟩ := area_all ds vs x2 q.2 fun e he => z e (List.mem_cons_of_mem _ he)
    have kA : ∀ b ∈ A, b ∈ A ++ B := fun b hb => List.mem_append.mpr (.inl hb)
    have kB : ∀ b ∈ B, b ∈ A ++ B := fun b hb => List.mem_append.mpr (.inr hb)
    refine ⟨A ++ B, fun u hu => ?_, fun b hb => ?_⟩
    · rcases List.mem_cons.mp hu with e | m
      · rw [e]
        exact a1.mono kA
      · exact (b1 u m).mono kB
    · rcases List.mem_append.mp hb with m | m
      · exact (a2 b m).mono kA
      · exact (b2 b m).mono kB
end
end
def hoOf (o : Obj) : Option HO := match o.data with
  | .seq vs _ => if (o.cls == Value.type "list") = true then some (.frz o (.lst (vs.toList.map toV))) else some (.frz o (.tup (vs.toList.map toV)))
  | _ => none
def argH (K : PySem.W.Frag) (h : Heap) (A : List Addr) : Hp := fun b => if b ∈ A then (if (K.lookup b).isNone = true then (h.get? b).bind hoOf else none) else none
def OnlyF (H : Hp) : Prop := ∀ b, H b = none ∨ ∃ o u, H b = some (.frz o u)
theorem hoOf_lst (vs : List Value) : hoOf { cls := .type "list", data := .seq vs.toArray } = some (.frz { cls := .type "list", data := .seq vs.toArray } (.lst (vs.map toV))) := by
  show (if (Value.type "list" == Value.type "list") = true then some (HO.frz { cls := .type "list", data := .seq vs.toArray } (.lst (vs.toArray.toList.map toV))) else some (HO.frz { cls := .type "list", data := .seq vs.toArray } (.tup (vs.toArray.toList.map toV)))) = _
  rw [if_pos (beq_self_eq_true _)]
theorem hoOf_tup (vs : List Value) : hoOf { cls := .type "tuple", data := .seq vs.toArray } = some (.frz { cls := .type "tuple", data := .seq vs.toArray } (.tup (vs.map toV))) := by
  show (if (Value.type "tuple" == Value.type "list") = true then some (HO.frz { cls := .type "tuple", data := .seq vs.toArray } (.lst (vs.toArray.toList.map toV))) else some (HO.frz { cls := .type "tuple", data := .seq vs.toArray } (.tup (vs.toArray.toList.map toV)))) = _
  rw [if_neg (by decide)]
section
variable {P : Program} {w : World} {K : PySem.W.Frag} {h : Heap} {A : List Addr}
theorem argH_at {b : Addr} {o : Obj} (hb : b ∈ A) (hk : K.lookup b = none) (e : h.get? b = some o) : argH K h A b = hoOf o := by
  unfold argH
  rw [if_pos hb, hk, if_pos (show (none : Option Obj).isNone = true from rfl), e] <;> rfl
theorem of_argH {b : Addr} {u : HO} (q : argH K h A b = some u) : b ∈ A ∧ K.lookup b = none := by
  unfold argH at q
  by_cases hb : b ∈ A
  · rw [if_pos hb] at q
    cases hk : K.lookup b with
    | none => exact ⟨hb, rfl⟩
    | some o =>
      rw [hk, if_neg (by simp)] at q
      cases q
  · rw [if_neg hb] at q
    cases q
theorem argH_is (ar : ∀ a ∈ A, ArgOb h A a) {b : Addr} {u : HO} (q : argH K h A b = some u) : K.lookup b = none ∧ ∃ vs : List Value, vs.length ≤ sizeLine ∧ (∀ u ∈ vs, OkU A u) ∧
    ((h.get? b = some { cls := .type "list", data := .seq vs.toArray } ∧ u = .frz { cls := .type "list", data := .seq vs.toArray } (.lst (vs.map toV))) ∨
     (h.get? b = some { cls := .type "tuple", data := .seq vs.toArray } ∧ u = .frz { cls := .type "tuple", data := .seq vs.toArray } (.tup (vs.map toV)))) := by
  obtain ⟨hb, hk⟩ := of_argH q
  obtain ⟨vs, h1, h2, h3⟩ := ar b hb
  refine ⟨hk, vs, h1, h2, ?_⟩
  rcases h3 with e | e
  · rw [argH_at hb hk e, hoOf_lst] at q
    exact .inl ⟨e, (Option.some.inj q).symm⟩
  · rw [argH_at hb hk e, hoOf_tup] at q
    exact .inr ⟨e, (Option.some.inj q).symm⟩
theorem argH_only (ar : ∀ a ∈ A, ArgOb h A a) : OnlyF (argH K h A) := fun b => by
  cases q : argH K h A b with
  | none => exact .inl rfl
  | some u =>
    obtain ⟨_, vs, _, _, ⟨_, e⟩ | ⟨_, e⟩⟩ := argH_is ar q
    · exact .inr ⟨_, _, by rw [e]⟩
    · exact .inr ⟨_, _, by rw [e]⟩
theorem argH_ok (ar : ∀ a ∈ A, ArgOb h A a) : HOk P w (argH K h A) h := fun b u q => by
  obtain ⟨_, vs, h1, h2, ⟨e, rfl⟩ | ⟨e, rfl⟩⟩ := argH_is ar q
  · exact ⟨e, by rw [List.length_map]; exact h1, vs, _, vals_toV h2, e⟩
  · exact ⟨e, by rw [List.length_map]; exact h1, vs, vals_toV h2, _, e, rfl, _, rfl⟩
theorem seq_inj {c c' : Value} {vs us : List Value} (e : (some { cls := c, data := .seq vs.toArray } : Option Obj) = some { cls := c', data := .seq us.toArray }) : c = c' ∧ vs = us := by
  have e1 := Option.some.inj e
  have e2 : c = c' := congrArg Obj.cls e1
  have e3 : Data.seq vs.toArray = Data.seq us.toArray := congrArg Obj.data e1
  injection e3 with e4
  refine ⟨e2, ?_⟩
  have e5 := congrArg Array.toList e4
  simpa using e5
theorem argL (KX : K.In h) (ar : ∀ a ∈ A, ArgOb h A a) {a : Addr} {vs : List Value} (ha : a ∈ A) (e : h.get? a = some { cls := .type "list", data := .seq vs.toArray }) : (∀ u ∈ vs, OkU A u) ∧ SqL K (argH K h A) a (vs.map toV) := by
  obtain ⟨us, h1, h2, h3⟩ := ar a ha
  have hu : us = vs := by
    rcases h3 with q | q
    · rw [e] at q
      exact (seq_inj q).2.symm
    · rw [e] at q
      exact absurd (Value.type.inj (seq_inj q).1) (by decide)
  subst hu
  refine ⟨h2, ?_⟩
  cases hk : K.lookup a with
  | none => exact .inl (.inr ⟨_, by rw [argH_at ha hk e, hoOf_lst]⟩)
  | some o =>
    have e2 := KX a o hk
    rw [e] at e2
    obtain rfl := Option.some.inj e2
    exact .inr ⟨_, us.toArray, _, hk, rfl, rfl, rfl, by rw [List.size_toArray]; exact h1, by simpa using vals_toV h2⟩
theorem argT (KX : K.In h) (ar : ∀ a ∈ A, ArgOb h A a) {a : Addr} {vs : List Value} (ha : a ∈ A) (e : h.get? a = some { cls := .type "tuple", data := .seq vs.toArray }) : (∀ u ∈ vs, OkU A u) ∧ SqT K (argH K h A) a (vs.map toV) := by
  obtain ⟨us, h1, h2, h3⟩ := ar a ha
  have hu : us = vs := by
    rcases h3 with q | q
    · rw [e] at q
      exact absurd (Value.type.inj (seq_inj q).1) (by decide)
    · rw [e] at q
      exact (seq_inj q).2.symm
  subst hu
  refine ⟨h2, ?_⟩
  cases hk : K.lookup a with
  | none => exact .inl (.inr ⟨_, by rw [argH_at ha hk e, hoOf_tup]⟩)
  | some o =>
    have e2 := KX a o hk
    rw [e] at e2
    obtain rfl := Option.some.inj e2
    exact .inr ⟨_, us.toArray, _, hk, rfl, rfl, by rw [List.size_toArray]; exact h1, by simpa using vals_toV h2⟩
mutual
theorem dw_one {Pm : Params} (KX : K.In h) (ar : ∀ a ∈ A, ArgOb h A a) : ∀ (d : WData) (v : Value), Well Pm h v d → plW d = true → OkU A v → Dw K (argH K h A) (toV v) d
  | .none, _, x, _, _ => by
    cases x
    exact .non
  | .bool b, _, x, _, _ => by
    cases x
    exact .bl b
  | .int i, _, x, _, _ => by
    cases x
    exact .int i
  | .str s, _, x, _, _ => by
    cases x
    exact .str s
  | .bytes b, _, x, _, _ => by
    cases x
    have z := Dw.byt (K := K) (H := argH K h A) b.toArray
    exact z
  | .list ds, _, x, p, hu => by
    obtain ⟨a, vs, rfl, ho, hall⟩ := well_list x
    obtain ⟨h2, hs⟩ := argL KX ar hu ho
    exact .lst hs (dw_all KX ar ds _ hall p h2)
  | .tuple ds, _, x, p, hu => by
    obtain ⟨a, vs, rfl, ho, hall⟩ := well_tuple x
    obtain ⟨h2, hs⟩ := argT KX ar hu ho
    exact .tup hs (dw_all KX ar ds _ hall p h2)
  | .float _, _, _, p, _ => Bool.noConfusion (show false = true from p)
  | .dict _, _, _, p, _ => Bool.noConfusion (show false = true from p)
  | .bytearray _, _, _, p, _ => Bool.noConfusion (show false = true from p)
  | .set _, _, _, p, _ => Bool.noConfusion (show false = true from p)
  | .frozenset _, _, _, p, _ => Bool.noConfusion (show false = true from p)
  | .obj _ _, _, _, p, _ => Bool.noConfusion (show false = true from p)
theorem dw_all {Pm : Params} (KX : K.In h) (ar : ∀ a ∈ A, ArgOb h A a) : ∀ (ds : List WData) (vs : List Value), WellAll Pm h vs ds → plWs ds = true → (∀ u ∈ vs, OkU A u) → DwAll K (argH K h A) (vs.map toV) ds
  | [], _, x, _, _ => by
    cases x
    exact .nil
  | d :: ds, _, x, p, hu => by
    obtain ⟨v, vs, rfl, x1, x2⟩ := well_cons x
    have q : plW d = true ∧ plWs ds = true := Bool.and_eq_true_iff.mp p
    exact .cons (dw_one KX ar d v x1 q.1 (hu _ (List.mem_cons_self ..))) (dw_all KX ar ds vs x2 q.2 fun u m => hu u (List.mem_cons_of_mem _ m))
end
end
theorem spec_call {P : Program} {w : World} {K : PySem.W.Frag} {mg mb : Str → Option Value} {CX : CXT} {k : Nat} {fa : Addr} {fd : FuncData} {ps : List Str} {sp : Sp} {s₁ : Shared} {vals : List Value} {ds : List WData} {R : PySem.W.WRecords} {cl : Str → Option Addr} {d0 : WData}
    (KX : K.In s₁.heap) (hns : s₁.heap.Ns mainGlobals mg) (hb : s₁.heap.Ns builtinsNs mb) (hbb : ∀ x : Str, x ≠ "__name__" → mb x = bootBuiltins x) (hlim : s₁.heap.NoLimit) (hg : s₁.gens = #[])
    (hwl : WellAll w.params s₁.heap vals ds) (hpl : plWs ds = true) (hwt : ∀ d ∈ ds, d.weight ≤ 1048576) (hr : Room k callerA)
    (F : ∀ base : Heap, K.In base → base.Ns mainGlobals mg → FnOk P w K mg base CX k fa fd ps sp) (hbind : ∀ (s : Shared) (us : List Value), us.length = ps.length → BindsTo s fd ⟨us, []⟩ (ps.zip us)) (hlen : ds.length = ps.length)
    (hsp : ∀ (H : Hp) (xs : List V), OnlyF H → DwAll K H xs ds → sp xs H (fun v H' => Dw K H' v d0) fun _ _ _ => False)
    (hCX : ∀ H e s', CX [] H s₁ (fun _ _ _ => False) e s' → False) :
    codeAny (model P w) callerA (.call (.ref fa) ⟨vals, []⟩) (fun r s' => ∃ u as, r = .ok (.ret u) ∧ ReadsW R cl s'.heap u d0 as ∧ OldK s₁.heap s'.heap ∧ s'.os = s₁.os ∧ AllBare s'.gens) s₁ := by
  obtain ⟨A, ho, ar⟩ := area_all ds vals hwl hpl hwt
  have hO : OnlyF (argH K s₁.heap A) := argH_only ar
  have hok : HOk P w (argH K s₁.heap A) s₁.heap := argH_ok ar
  have hS := dw_all KX ar ds vals hwl hpl ho
  have hV := vals_toV ho
  have hK : ∀ b u, argH K s₁.heap A b = some u → K.lookup b = none := fun b u q => (argH_is ar q).1
  have noA : ∀ {b : Addr} {o : Obj} {es : Array DictEntry} {ep : Nat}, s₁.heap.get? b = some o → o.data = .dict es ep → argH K s₁.heap A b = none := fun {b o es ep} e d => by
    cases q : argH K s₁.heap A b with
    | none => rfl
    | some u =>
      obtain ⟨_, vs, _, _, ⟨e2, _⟩ | ⟨e2, _⟩⟩ := argH_is ar q
      · rw [e2] at e
        cases e
        have d' : Data.seq vs.toArray _ = Data.dict es ep := d
        cases d'
      · rw [e2] at e
        cases e
        have d' : Data.seq vs.toArray _ = Data.dict es ep := d
        cases d'
  generalize argH K s₁.heap A = H at hO hok hS hK noA
  have base_of : ∀ {b : Addr} {o : Obj}, s₁.heap.get? b = some o → H b = none → (hidT s₁.heap H).get? b = some o := fun e n => hidT_get e n
  have nsK : ∀ {b : Addr} {m : Str → Option Value}, s₁.heap.Ns b m → (hidT s₁.heap H).Ns b m := fun {b m} ⟨o, es, ep, e, d, r⟩ => ⟨o, es, ep, base_of e (noA e d), d, r⟩
  have nK : ∀ b o, K.lookup b = some o → H b = none := fun b o e => by
    cases q : H b with
    | none => rfl
    | some u =>
      rw [hK b u q] at e
      cases e
  have hKb : K.In (hidT s₁.heap H) := fun b o e => base_of (KX b o e) (nK b o e)
  have hM : Mod K mg (hidT s₁.heap H) := ⟨hKb, nsK hns, ⟨mb, nsK hb, hbb⟩, let ⟨mc, h1, h2⟩ := hlim; ⟨mc, nsK h1, h2⟩⟩
  have e0 : Env0 P w K mg (hidT s₁.heap H) callerA [] s₁ H := ⟨rfl, hM, fun b o e => of_hidT e, Nat.le_of_eq (hidT_size _ _), trivial, fun b hb => absurd (show b ∈ ([] : List Addr) from hb) (by simp), hok, .of_eq hg⟩
  have hl : vals.length = ps.length := by rw [wellAll_len hwl]; exact hlen
  refine codeAny_mono ((F _ hKb (nsK hns)).run callerA [] s₁ H ⟨vals, []⟩ vals (vals.map toV) _ _ hr e0 (hbind s₁ vals hl) hV (hsp H _ hO hS)) fun r s' x => ?_
  cases r with
  | error e => exact (hCX H e s' x).elim
  | ok fl =>
    cases fl with
    | next => exact False.elim x
    | brk => exact False.elim x
    | cont => exact False.elim x
    | ret u =>
      obtain ⟨v, H', os, bare, un, hok', r', q⟩ := x
      have kept : ∀ b o, s₁.heap.get? b = some o → s'.heap.get? b = some o := fun b o e => by
        cases q2 : H b with
        | none => exact un.keep b o e q2 (by intro z; exact absurd (show b ∈ ([] : List Addr) from z) (by simp)) (by simp)
        | some u2 =>
          rcases hO b with z | ⟨ob, u3, z⟩
          · rw [q2] at z
            cases z
          · have z2 := un.frzs b ob _ z
            obtain ⟨e1, _⟩ := hok b _ z
            obtain ⟨e2, _⟩ := hok' b _ z2
            rw [e] at e1
            cases e1
            exact e2
      have KX' : K.In s'.heap := fun b o e => kept b o (KX b o e)
      obtain ⟨as, hrd⟩ := Dw.reads (R := R) (cl := cl) hok' KX' d0 v u q r'
      exact ⟨u, as, rfl, hrd, OldK.of_keep kept, os, bare⟩
theorem layable_weight {ds : List WData} (h : WData.layableAll ds = true) : ∀ d ∈ ds, d.weight ≤ 1048576 := fun d hd =>
  (PySem.W.layableW_iff.mp (List.all_eq_true.mp h d hd)).2.2
theorem encAll_len : ∀ (cs : List Codec) (a : Codec.denoteAll cs), (Codec.encAll cs a).length = cs.length
  | [], _ => rfl
  | c :: cs, a => by
    show (Codec.encAll cs a.2).length + 1 = cs.length + 1
    rw [encAll_len cs a.2]
theorem walk_spec {r : OpenSpec} {k : Nat} {q : Program} {loose : List Str} {XP : (Str → Option Value) → Heap → Prop} {YP : World → Heap → Prop} {d : DefRec} {K : Params → PySem.W.Frag} {CX : World → CXT} {ps : List Str} {sp : World → Sp}
    (hwell : r.wellSaid = true) (hdf : d.params.defaults = []) (hlen : r.args.length = ps.length) (hr : Room k callerA)
    (hY : ∀ (w : World) (h : Heap), YP w h → (K w.params).In h)
    (F : ∀ (w : World) (mg : Str → Option Value) (fa : Addr) (h : Heap), YP w h → (K w.params).In h → h.Ns mainGlobals mg → mg d.name = some (.ref fa) →
      ∃ fd : FuncData, (∀ (s : Shared) (us : List Value), us.length = ps.length → BindsTo s fd ⟨us, []⟩ (ps.zip us)) ∧
        ∀ base : Heap, (K w.params).In base → base.Ns mainGlobals mg → FnOk r.prog w (K w.params) mg base (CX w) k fa fd ps (sp w))
    (hsp : ∀ (w : World) (H : Hp) (xs : List V) (a : Codec.denoteAll r.args), OnlyF H → Codec.withinAll r.args a = true → Codec.app r.args r.asked a = true → DwAll (K w.params) H xs (Codec.encAll r.args a) →
      sp w xs H (fun v H' => Dw (K w.params) H' v (r.ret.enc (Codec.app r.args r.f a))) fun _ _ _ => False)
    (hCX : ∀ (w : World) (H : Hp) (s : Shared) (e : Value) (s' : Shared), CX w [] H s (fun _ _ _ => False) e s' → False) :
    PySem.W.WalkOS q loose XP YP r d [] (fun f vs => PySem.call f vs) := by
  intro w s_0 s₁ mg mb G Y fa o pm cd doc dV kV ho hd hcd hD hmg hg args vals as hpre hlay hrd hwl hlo
  obtain ⟨a, e1, e2⟩ := PySem.W.os_pre_some hpre
  obtain ⟨e3, hwi⟩ := Codec.encAll_of_decAll r.args args a e1
  subst e3
  have KX := hY w _ Y
  obtain ⟨fd, hb, hF⟩ := F w mg fa _ Y KX G.T.g hmg
  refine PySem.W.enter_call (codeAny_mono (spec_call (R := []) (cl := classAt s_0.heap) (d0 := r.ret.enc (Codec.app r.args r.f a)) KX G.T.g G.T.b G.T.builtins G.T.nolimit hg hwl (pl_encAll _ _) (layable_weight hlay) hr hF hb (by rw [encAll_len]; exact hlen)
    (fun H xs hO hS => hsp w H xs a hO hwi e2 hS) fun H e s' => hCX w H s₁ e s') fun r' s' hq => ?_)
  obtain ⟨u, as', rfl, h1, h2, h3, h4⟩ := hq
  exact ⟨.inl ⟨u, _, as', rfl, fun _ => rfl, h1, (OpenSpec.post_iff hwell hwi _ _).mpr rfl, fun z => Bool.noConfusion (show false = true from z)⟩, h2, h3, h4⟩
theorem walk_specK {r : OpenSpec} {k : Nat} {q : Program} {loose : List Str} {XP : (Str → Option Value) → Heap → Prop} {YP : World → Heap → Prop} {d : DefRec} {K : Params → PySem.W.Frag} {CX : CXT} {ps : List Str} {sp : PySem.W.Frag → Sp}
    (hwell : r.wellSaid = true) (hdf : d.params.defaults = []) (hlen : r.args.length = ps.length) (hr : Room k callerA)
    (hY : ∀ (w : World) (h : Heap), YP w h → (K w.params).In h)
    (F : ∀ (w : World) (mg : Str → Option Value) (fa : Addr) (h : Heap), YP w h → (K w.params).In h → h.Ns mainGlobals mg → mg d.name = some (.ref fa) →
      ∃ fd : FuncData, (∀ (s : Shared) (us : List Value), us.length = ps.length → BindsTo s fd ⟨us, []⟩ (ps.zip us)) ∧
        ∀ base : Heap, (K w.params).In base → base.Ns mainGlobals mg → FnOk r.prog w (K w.params) mg base CX k fa fd ps (sp (K w.params)))
    (hsp : ∀ (K : PySem.W.Frag) (H : Hp) (xs : List V) (a : Codec.denoteAll r.args), OnlyF H → Codec.withinAll r.args a = true → Codec.app r.args r.asked a = true → DwAll K H xs (Codec.encAll r.args a) →
      sp K xs H (fun v H' => Dw K H' v (r.ret.enc (Codec.app r.args r.f a))) fun _ _ _ => False)
    (hCX : ∀ (H : Hp) (s : Shared) (e : Value) (s' : Shared), CX [] H s (fun _ _ _ => False) e s' → False) :
    PySem.W.WalkOS q loose XP YP r d [] (fun f vs => PySem.call f vs) :=
  walk_spec (K := K) (CX := fun _ => CX) (sp := fun w => sp (K w.params)) hwell hdf hlen hr hY F (fun w H xs a h1 h2 h3 h4 => hsp (K w.params) H xs a h1 h2 h3 h4) fun _ H s e s' => hCX H s e s'
end L2
namespace Mx
open PySem
open Sem (wp)
theorem loopK {prog : Program} {w : World} {A : Around} {R : Result → Shared → Prop} {I S : Addr} {fp wr : List Addr} {n : Nat} {P : Nat → Value → Prop} {St : Nat → Heap → Prop} {kw : List (Str × Value)}
    (Wk : Walks prog w A.in1 I fp wr n P St) (gt : Nat → Nat → Bool) (cmp : CmpOf prog w A.in1 .Gt P gt) (notFp : S ∉ fp) :
    ∀ (left at_ : Nat) (s : Shared) (best : Value) (cap : Nat), n - (at_ + 1) = left → at_ + 1 ≤ n → St (at_ + 1) s.heap → P (argBest gt at_) best →
    s.heap.get? S = some { cls := .type "list", dict := none, data := .seq #[best, best] cap, slots := #[] } →
    (∀ v h2 tk2, P (argBest gt (n - 1)) v → (∀ b o, b ∉ wr → b ≠ S → s.heap.get? b = some o → h2.get? b = some o) → R (.ok (.ret v)) { s with heap := h2, toks := tk2 }) →
    codeAny (model prog w) A (.builtin "max.loop" ⟨[.ref I, .none, .ref S], kw⟩) R s := by
  have notWr : S ∉ wr := fun z => notFp (Wk.sub _ z)
  have nm : (toString "max" ++ toString ".loop" : String) = "max.loop" := by decide
  intro left
  induction left with
  | zero =>
    intro at_ s best cap e1 e2 st pb gS fin
    have whole : at_ + 1 = n := by omega
    refine codeAny_builtin F.entry_max_loop ?_
    rw [Around.under_plainId F.plain_max_loop _]
    refine wpAny_bind (m := seqItems? (.ref S)) (wpAny_seqItems gS rfl ?_)
    refine wpAny_bind (m := tryCatch (pyNext (.ref I)) _) (wpAny_tryCatch (Wk.done s _ _ (whole ▸ st) fun h1 tk1 k1 => ?_))
    have gS1 := k1 S _ notWr gS
    refine wpAny_bind (m := updateSeq S (fun _ => #[])) ?_
    refine wpAny_updateSeq gS1 rfl (wpAny_bind (wpAny_letGo (wpAny_pure ?_)))
    exact fin best _ tk1 (by rw [← whole]; exact pb) fun b o z1 z2 e => (Heap.get?_update_other _ _ (Ne.symm z2)).trans (k1 b o z1 e)
  | succ left ih =>
    intro at_ s best cap e1 e2 st pb gS fin
    have more : at_ + 1 < n := by omega
    refine codeAny_builtin F.entry_max_loop ?_
    rw [Around.under_plainId F.plain_max_loop _]
    refine wpAny_bind (m := seqItems? (.ref S)) (wpAny_seqItems gS rfl ?_)
    refine wpAny_bind (m := tryCatch (pyNext (.ref I)) _) (wpAny_tryCatch (Wk.item (at_ + 1) s _ _ more st fun v h1 tk1 pv st1 k1 => ?_))
    have gS1 := k1 S _ notWr gS
    refine wpAny_bind (m := tryCatch (holding [v, v] (richCompare .Gt v best >>= _)) _) (wpAny_tryCatch (wpAny_holding (wpAny_bind (cmp (at_ + 1) (argBest gt at_) v best _ _ _ pv pb ?_))))
    refine wpAny_bind (wpAny_holding (wpAny_truthy_bool ?_))
    refine wpAny_bind (wpAny_letGo (wpAny_pure ?_))
    cases better : gt (at_ + 1) (argBest gt at_) with
    | true =>
      rw [if_pos rfl]
      refine wpAny_bind ?_
      refine wpAny_updateSeq gS1 rfl (wpAny_bind (wpAny_letGo ?_))
      rw [nm]
      refine wpAny_pure ⟨plainId_quiet F.plain_max_loop _, ih (at_ + 1) _ v _ (by omega) more (Wk.frame _ _ _ st1 fun b zb o e => (Heap.get?_update_other _ _ (fun z : S = b => notFp (by rw [z]; exact zb))).trans e)
        (by rw [argBest, better, if_pos rfl]; exact pv) (Heap.get?_update_self _ gS1 rfl) fun v2 h2 tk2 p2 k2 => ?_⟩
      exact fin v2 h2 tk2 p2 fun b o z1 z2 e => k2 b o z1 z2 ((Heap.get?_update_other _ _ (Ne.symm z2)).trans (k1 b o z1 e))
    | false =>
      rw [if_neg Bool.false_ne_true]
      refine wpAny_bind (wpAny_letGo ?_)
      rw [nm]
      refine wpAny_pure ⟨plainId_quiet F.plain_max_loop _, ih (at_ + 1) _ best cap (by omega) more st1 (by rw [argBest, better, if_neg Bool.false_ne_true]; exact pb) gS1 fun v2 h2 tk2 p2 k2 => ?_⟩
      exact fin v2 h2 tk2 p2 fun b o z1 z2 e => k2 b o z1 z2 (k1 b o z1 e)
theorem argsK (a d : Value) : argsOk "max" ⟨[a], [(Str.ofString "default", d)]⟩ := by unfold argsOk; kernel_rfl
theorem max_default {prog : Program} {w : World} {A : Around} {E : Value → Shared → Prop} {s : Shared} {l : Addr} {xs : Array (Int × Tok)} {d : Value} {Q : Value → Shared → Prop} (hh : A.handled = none) (hl : s.heap.IsList l (intItems xs))
    (some_ : 0 < xs.size → ∀ v h2 tk2, (intItems xs)[argBest (fun i j => decide (numAt xs i > numAt xs j)) (xs.size - 1)]? = some v → (∀ b o, s.heap.get? b = some o → h2.get? b = some o) → Q v { s with heap := h2, toks := tk2 })
    (none_ : xs.size = 0 → ∀ h2 tk2, (∀ b o, s.heap.get? b = some o → h2.get? b = some o) → Q d { s with heap := h2, toks := tk2 }) :
    wpAny (model prog w) A (call (.builtin "max") [.ref l] [(Str.ofString "default", d)]) Q E s := by
  have nm : (toString "max" ++ toString ".loop" : String) = "max.loop" := by decide
  refine PyProof.Rows.kmk_tree F.kind_max F.plain_max F.entry_max (argsK _ _) ?_
  refine wpAny_bind (m := Builtin.Builtins.bindParams "max" ["key", "default"] 0 ⟨[], [(Str.ofString "default", d)]⟩) (wpAny_of_eq (show Builtin.Builtins.bindParams "max" ["key", "default"] 0 ⟨[], [(Str.ofString "default", d)]⟩ = pure [none, some d] from rfl) ?_)
  refine wpAny_bind (wpAny_pure ?_)
  refine wpAny_bind (iter_intList hl fun s2 e2 st fpL ne => ?_)
  refine wpAny_bind (wpAny_newObj_type ?_)
  rw [nm]
  have Wk := Walks.list (prog := prog) (w := w) (A := A.in1) hh s.heap.objs.size l ne (intItems xs)
  have notFp : s2.heap.objs.size ∉ [s.heap.objs.size, l] := fun z => Nat.lt_irrefl _ (fpL _ z)
  have st0 := Wk.frame 0 _ (s2.heap.push { cls := .type "list", data := .seq #[] }) st fun b _ o e => Heap.get?_push_of_some _ e
  have gS : (s2.heap.push { cls := .type "list", data := .seq #[] }).get? s2.heap.objs.size = some { cls := .type "list", data := .seq #[] } := Heap.get?_push_size _ rfl
  have notWr : s2.heap.objs.size ∉ [s.heap.objs.size] := fun z => notFp (Wk.sub _ z)
  refine wpAny_pure ⟨plainId_quiet F.plain_max_loop _, ?_⟩
  refine codeAny_builtin F.entry_max_loop ?_
  rw [Around.under_plainId F.plain_max_loop _]
  refine wpAny_bind (m := seqItems? (.ref s2.heap.objs.size)) (wpAny_seqItems gS rfl ?_)
  have hsz : (intItems xs).size = xs.size := by simp [intItems]
  by_cases hne : 0 < xs.size
  · refine wpAny_bind (m := tryCatch (pyNext (.ref s.heap.objs.size)) _) (wpAny_tryCatch (Wk.item 0 _ _ _ (by rw [hsz]; exact hne) st0 fun v h1 tk1 pv st1 k1 => ?_))
    have gS1 := k1 s2.heap.objs.size _ notWr gS
    refine wpAny_bind (m := updateSeq s2.heap.objs.size (fun _ => #[v, v])) ?_
    refine wpAny_updateSeq gS1 rfl ?_
    rw [nm]
    refine wpAny_pure ⟨plainId_quiet F.plain_max_loop _, loopK Wk _ (CmpOf.ints_gt (numAt xs) (fun _ _ => intItems_at)) notFp _ 0 _ v _ rfl (by rw [hsz]; exact hne)
      (Wk.frame _ _ _ st1 fun b zb o e => (Heap.get?_update_other _ _ (fun z : s2.heap.objs.size = b => notFp (by rw [z]; exact zb))).trans e) pv (Heap.get?_update_self _ gS1 rfl) fun v2 h2 tk2 p2 k2 => ?_⟩
    subst e2
    exact some_ hne v2 h2 tk2 (by rw [← hsz]; exact p2) (old_kept fun b o z1 e => k2 b o z1 (Nat.ne_of_lt (Heap.lt_size e)) ((Heap.get?_update_other _ _ (Nat.ne_of_gt (Heap.lt_size e))).trans (k1 b o z1 (Heap.get?_push_of_some _ e))))
  · have hz : xs.size = 0 := by omega
    refine wpAny_bind (m := tryCatch (pyNext (.ref s.heap.objs.size)) _) (wpAny_tryCatch (Wk.done _ _ _ (by rw [hsz, hz]; exact st0) fun h1 tk1 k1 => ?_))
    refine wpAny_pure (M := model prog w) (A := A.in1) (E := E) ?_
    subst e2
    exact none_ hz h1 tk1 (old_kept fun b o z1 e => k1 b o z1 (Heap.get?_push_of_some _ e))
end Mx
namespace L2
open PySem PySem.Spec PyProof.Rows
section
variable {X : Cx}
theorem mt_bitlen : MtR X "int.bit_length" (fun x xs H Q => ∃ i, x = .int i ∧ xs = [] ∧ Q (.int (Builtin.Int.intBits i)) H) := by
  rintro pins s σ H x xs v us Q I rx rs ⟨i, rfl, rfl, q⟩
  obtain ⟨t, rfl⟩ := (show ∃ t, v = Value.int i t from rx)
  cases rs
  exact call_int_bit_length ⟨.int _, H, I.tok _, ⟨_, rfl⟩, q⟩
def CMulB (i j : Int) : Prop := Builtin.Int.intBits i ≤ 2 ^ 20 ∧ Builtin.Int.intBits j ≤ 2 ^ 20
def CShlB (i j : Int) : Prop := 0 ≤ j ∧ (Builtin.Int.intBits i : Int) + j ≤ 2 ^ 27
def CDivB (i j : Int) : Prop := j ≠ 0 ∧ j.natAbs.log2 < 9000
theorem op_mulB : OpR X (binaryOp .Mult) (rI CMulB fun i j => .int (i * j)) := opI fun _ _ _ _ _ _ _ hc q => mul_int q (.of_bits hc.1 hc.2)
theorem op_shlB : OpR X (binaryOp .LShift) (rI CShlB fun i j => .int (i * 2 ^ j.toNat)) := opI fun _ _ _ _ _ _ _ hc q => PyProof.Rows.lshift_int hc.1 hc.2 q
theorem op_fdivB : OpR X (binaryOp .FloorDiv) (rI CDivB fun i j => .int (i.fdiv j)) := opI fun _ _ _ _ _ _ _ hc q => floordiv_int hc.1 q (.inl (PyProof.noPylong_of_log2 hc.2))
theorem maxD_raw {prog : Program} {w : World} {A : Around} {E : Value → Shared → Prop} {s : Shared} {l : Addr} {its : List Value} {ns : List Int} {d : Value} {Q : Value → Shared → Prop} (hh : A.handled = none) (hl : s.heap.IsList l its.toArray) (hi : IntsAre its ns)
    (h0 : ns = [] → ∀ h2 tk2, (∀ b o, s.heap.get? b = some o → h2.get? b = some o) → Q d { s with heap := h2, toks := tk2 })
    (h1 : ∀ h2 tk2 M t2, (∀ b o, s.heap.get? b = some o → h2.get? b = some o) → M ∈ ns → (∀ a, a ∈ ns → a ≤ M) → Q (.int M t2) { s with heap := h2, toks := tk2 }) :
    wpAny (model prog w) A (call (.builtin "max") [.ref l] [(Str.ofString "default", d)]) Q E s := by
  obtain ⟨xs, e⟩ := hi.allInts.items
  have hn : numsOf (intItems xs).toList = ns := by rw [← e]; exact hi.numsOf
  rw [nums_intItems] at hn
  subst hn
  rw [e] at hl
  refine Mx.max_default hh hl (fun hsz v h2 tk2 hv hk => ?_) (fun hz h2 tk2 hk => h0 (by
    have : xs = #[] := Array.size_eq_zero_iff.mp hz
    subst this; rfl) h2 tk2 hk)
  obtain ⟨t, rfl⟩ := intItems_at hv
  obtain ⟨g1, g2⟩ := argBest_gt (numAt xs) (xs.size - 1)
  refine h1 h2 tk2 _ t hk ?_ fun a ha => ?_
  · rw [numAt_eq]
    exact PySem.getD_mem (by rw [List.length_map, Array.length_toList]; omega)
  · obtain ⟨j, hj, rfl⟩ := mem_getD ha
    rw [List.length_map, Array.length_toList] at hj
    rw [← numAt_eq]
    exact g2 j (by omega)
def tRng2 (ta : TA) : TE := fun σ H Q => ta σ H fun vs H1 => ∃ i j : Int, vs = [.int i, .int j] ∧ ∀ p, H1 p = none → Q (.ref p) (upd H1 p (.rng i j))
theorem pe_rng2 {a b : Expr} {ta : TA} {p pos : Pos} (hg : Gl X "range") (hm : X.mg "range" = none) (ha : PA X [a, b] ta) (hs : starEach [a, b] X.env = [(false, eval a X.env), (false, eval b X.env)] := by rfl) (hs2 : starEach [b] X.env = [(false, eval b X.env)] := by rfl) :
    PE X (.Call (.Name "range" p) [a, b] [] pos) (tRng2 ta) := by
  intro pins s σ H Q I h
  refine Call_ (ld_blt I hg hm boot_range (PyProof.Rows.callWith_type1 (thn (ha pos pins s σ H _ I h) fun us s1 ⟨vs, H1, I1, r1, q1⟩ => ?_) (by rw [hs, hs2]) (by rw [hs2]; rfl)))
  obtain ⟨i, j, e, q⟩ := q1
  subst e
  cases r1 with
  | cons r rr =>
    cases rr with
    | cons r' rr =>
      cases rr
      obtain ⟨t, rfl⟩ := r
      obtain ⟨t', rfl⟩ := r'
      refine call_range_2 ⟨.ref s1.heap.objs.size, _, I1.laid (o := .rng i j) (fun b u e => Heap.get?_push_of_some _ e) (Nat.le_refl _) ⟨_, _, _, Heap.get?_push_size _ rfl⟩, rfl, q _ (I1.hok.fresh (Nat.le_refl _))⟩
theorem vals_of_get : ∀ {xs : List V} {us : List Value}, xs.length = us.length → (∀ (j : Nat) x u, xs[j]? = some x → us[j]? = some u → RelV x u) → Vals xs us
  | [], [], _, _ => .nil
  | x :: xs, u :: us, hl, h => .cons (h 0 x u rfl rfl) (vals_of_get (by simpa using hl) fun j y v e1 e2 => h (j + 1) y v (by simpa using e1) (by simpa using e2))
theorem call_list_rng (hc : X.calm = true) : CallR X (.type "list") (fun xs H Q => ∃ p i j, xs = [.ref p] ∧ H p = some (.rng i j) ∧ (-(2 ^ 62) ≤ i ∧ i < 2 ^ 62 ∧ -(2 ^ 62) ≤ j ∧ j < 2 ^ 62) ∧ (j - i).toNat ≤ 65536 ∧
    ∀ l, H l = none → Q (.ref l) (upd H l (.lst ((List.range (j - i).toNat).map fun k => V.int (i + (k : Nat)))))) := by
  rintro pins s σ H xs us Q I r ⟨p, i, j, rfl, hp, ⟨b1, b2, b3, b4⟩, hle, q⟩
  obtain ⟨u, rfl, rx⟩ := vals1 r
  cases rx
  obtain ⟨t, u, v, e⟩ := (show ObjOk X.prog X.w H s.heap p (.rng i j) from I.hok p _ hp)
  have hn : Builtin.Range.rangeSize i j 1 = ((j - i).toNat : Int) := by rw [rangeSize_one]; split <;> omega
  refine call_list_range (I.ok.hd hc) (show IsRange s.heap p i j 1 t u v from e) (small_one b1 b2 b3 b4) hn (by omega) fun h2 tk acc cap hk hS hacc => ?_
  have hv : Vals ((List.range (j - i).toNat).map fun k => V.int (i + (k : Nat))) acc.toList := by
    refine vals_of_get (by rw [List.length_map, List.length_range, Array.length_toList, hacc.1]) fun k x u e1 e2 => ?_
    obtain ⟨t2, rfl⟩ := hacc.2 k u (by simpa using e2)
    rw [List.getElem?_map] at e1
    have hk2 : k < (j - i).toNat := by
      have := (Array.getElem?_eq_some_iff.mp (show acc[k]? = some _ by simpa using e2)).1
      rw [hacc.1] at this; exact this
    rw [List.getElem?_range hk2] at e1
    cases e1
    exact ⟨t2, by rw [Int.mul_one]⟩
  have hz : ((List.range (j - i).toNat).map fun k => V.int (i + (k : Nat))).length ≤ sizeLine := by rw [List.length_map, List.length_range]; exact Nat.le_trans hle (by decide)
  exact ⟨.ref s.heap.objs.size, _, I.laid (t' := tk) hk (Nat.le_refl _) (show ObjOk X.prog X.w _ h2 _ (.lst _) from ⟨hz, acc.toList, cap, hv, by simpa using hS⟩), rfl, q _ (I.hok.fresh (Nat.le_refl _))⟩
end
end L2
namespace PySem
open Sem (wp)
namespace Zt
section
variable {prog : Program} {w : World} {A : Around} {E : Value → Shared → Prop} {s : Shared}
theorem nextItem {j t : Addr} {n : Nat} {ys} {y : Value} {Q : Value → Shared → Prop} (hj : s.heap.IsTupleIter j t n) (ht : s.heap.IsTuple t ys) (hy : ys[n]? = some y)
    (k : ∀ h', h'.IsTupleIter j t (n + 1) → Heap.SameBut j s.heap h' → Q y { s with heap := h' }) : wpAny (model prog w) A (Builtin.SmallTypes.nextOf (.ref j)) Q E s := by
  obtain ⟨o, go, gc, gd⟩ := id hj
  obtain ⟨ot, gt, _, nt, gdt⟩ := ht
  unfold Builtin.SmallTypes.nextOf
  refine wpAny_bind (wpAny_callSpecial?_slot (name := Str.ofString "__next__") hj.typeIs F.slot_tuple_iterator_next (wpAny_call_entry F.slot_tuple_iterator_next hj.typeIs F.entry_tuple_iterator_next ?_ (F.args_tuple_iterator_next_1 _)))
  show wpAny _ _ (field (.ref j) 0 >>= _) _ _ s
  refine wpAny_bind (wpAny_field go gd (x := .ref t) rfl ?_)
  show wpAny _ _ (if (Value.ref t == Value.none) = true then _ else _) _ _ s
  rw [if_neg (by intro z; cases z)]
  show wpAny _ _ (field (.ref j) 1 >>= _) _ _ s
  refine wpAny_bind (wpAny_field go gd (x := .int n 0) rfl ?_)
  show wpAny _ _ (seqItems? (.ref t) >>= _) _ _ s
  refine wpAny_bind (wpAny_seqItems gt gdt ?_)
  simp only [Int.toNat_natCast, hy]
  refine wpAny_bind (wpAny_setField go gd (by simp) (wpAny_pure ⟨y, rfl, wpAny_pure (k _ ?_ (Heap.SameBut.update ..))⟩))
  exact ⟨_, Heap.get?_update_self _ go (Obj.isFreed_of_fields (Obj.data_mapFields gd _)), (Obj.cls_mapFields ..).trans gc, by rw [Obj.data_mapFields gd]; simp [rawInt]⟩
theorem nextEnd {j t : Addr} {n : Nat} {ys} {Q : Value → Shared → Prop} (hh : A.handled = none) (hj : s.heap.IsTupleIter j t n) (ht : s.heap.IsTuple t ys) (hy : ys[n]? = none)
    (k : ∀ h' e, Heap.ExtBut j s.heap h' → (∃ o, h'.get? e = some o ∧ o.cls = .type "StopIteration") → E (.ref e) { s with heap := h' }) : wpAny (model prog w) A (Builtin.SmallTypes.nextOf (.ref j)) Q E s := by
  obtain ⟨o, go, gc, gd⟩ := id hj
  obtain ⟨ot, gt, _, nt, gdt⟩ := ht
  unfold Builtin.SmallTypes.nextOf
  refine wpAny_bind (wpAny_callSpecial?_slot (name := Str.ofString "__next__") hj.typeIs F.slot_tuple_iterator_next (wpAny_call_entry F.slot_tuple_iterator_next hj.typeIs F.entry_tuple_iterator_next ?_ (F.args_tuple_iterator_next_1 _)))
  show wpAny _ _ (field (.ref j) 0 >>= _) _ _ s
  refine wpAny_bind (wpAny_field go gd (x := .ref t) rfl ?_)
  show wpAny _ _ (if (Value.ref t == Value.none) = true then _ else _) _ _ s
  rw [if_neg (by intro z; cases z)]
  show wpAny _ _ (field (.ref j) 1 >>= _) _ _ s
  refine wpAny_bind (wpAny_field go gd (x := .int n 0) rfl ?_)
  show wpAny _ _ (seqItems? (.ref t) >>= _) _ _ s
  refine wpAny_bind (wpAny_seqItems gt gdt ?_)
  simp only [Int.toNat_natCast, hy]
  refine wpAny_bind (wpAny_rule (wpAny_bind (wpAny_setField go gd (by simp) ?_)))
  show wpAny _ _ (newExc (.type "StopIteration") [] >>= _) _ _ _
  refine wpAny_bind ?_
  simp only [newExc, newTuple]
  refine wpAny_bind (wpAny_newObj_type ?_ (by size_fits))
  refine wpAny_bind (m := firstArgMember _ _) (wpAny_of_eq (a := Value.none) (by first | rfl | (simp only [firstArgMember]; rfl)) ?_)
  refine wpAny_newObj_type ?_ (by size_fits)
  simp only [raiseNew]
  refine wpAny_bind (wpAny_handled ?_)
  first | rw [show A.in1.handled = none from hh] | rw [hh]
  refine wpAny_bind (wpAny_pure (wpAny_throw ?_))
  exact k _ _ (((Heap.SameBut.update ..).extBut.push _).push _) ⟨_, Heap.get?_push_size _ rfl, rfl⟩
theorem both {z I O i j l t : Addr} {n m : Nat} {xs ys : Array Value} {x y a b : Value} {Q : Value → Shared → Prop} (D : ZipApart z I O i j l t) (qz : IsZip s.heap z I O .none) (qI : IsPair s.heap I (.ref i) (.ref j)) (qO : IsPair s.heap O a b)
    (q1 : s.heap.IsListIter i l n) (q2 : s.heap.IsTupleIter j t m) (ql : s.heap.IsList l xs) (qt : s.heap.IsTuple t ys) (hx : xs[n]? = some x) (hy : ys[m]? = some y)
    (k : ∀ h', IsZip h' z I O (rawInt s.heap.objs.size) → IsPair h' O x y → h'.IsListIter i l (n + 1) → h'.IsTupleIter j t (m + 1) → IsPair h' s.heap.objs.size x y → h'.objs.size = s.heap.objs.size + 1 →
      (∀ c o, c ≠ z → c ≠ O → c ≠ i → c ≠ j → s.heap.get? c = some o → h'.get? c = some o) → Q (.ref s.heap.objs.size) { s with heap := h' }) :
    wpAny (model prog w) A (Builtin.«zip.__next__» ⟨[.ref z], []⟩) (fun fin s' => ∃ v, fin = .done (.ret v) ∧ Q v s') E s := by
  show wpAny _ _ (field (.ref z) 2 >>= _) _ _ _
  refine wpAny_bind (wpAny_field qz rfl (x := .bool false) rfl ?_)
  show wpAny _ _ (field (.ref z) 3 >>= _) _ _ _
  refine wpAny_bind (wpAny_field qz rfl (x := .ref I) rfl ?_)
  refine wpAny_bind (wpAny_seqItems qI rfl ?_)
  show wpAny _ _ (Builtin.SmallTypes.ownedTupleIsFree (.ref z) >>= _) _ _ _
  refine wpAny_bind ?_
  unfold Builtin.SmallTypes.ownedTupleIsFree
  refine wpAny_bind (wpAny_field qz rfl (x := .none) rfl (wpAny_pure ?_))
  simp only [if_true]
  refine wpAny_bind (wpAny_rule ?_)
  refine wpAny_bind (wpAny_field qz rfl (x := .ref O) rfl ?_)
  refine wpAny_bind (wpAny_setField_rec qz (by simp) fun h1 qz1 s1 => ?_)
  replace qz1 : IsZip h1 z I O .ellipsis := qz1
  refine wpAny_bind ?_
  simp only [List.forIn_cons, List.forIn_nil, List.zipIdx_cons, List.zipIdx_nil]
  refine wpAny_bind (wpAny_bind (wpAny_onRaise ?_))
  show wpAny _ _ (Builtin.SmallTypes.nextOf (.ref i) >>= _) _ _ _
  refine wpAny_bind (wpAny_nextOf_list_item (q1.extBut s1.extBut D.i1z) (ql.extBut s1.extBut D.l1z) hx fun h2 q12 s2 => wpAny_pure ?_)
  have qO2 : IsPair h2 O a b := s2.extBut _ _ D.TOi1 (s1.extBut _ _ D.TOz qO)
  refine wpAny_bind (wpAny_seqItems qO2 rfl ?_)
  refine wpAny_bind (wpAny_updateSeq_pair qO2 fun h3 qO3 s3 => ?_)
  replace qO3 : IsPair h3 O x b := qO3
  refine wpAny_bind (wpAny_letGo (wpAny_pure ?_))
  refine wpAny_bind (wpAny_bind (wpAny_onRaise ?_))
  show wpAny _ _ (Builtin.SmallTypes.nextOf (.ref j) >>= _) _ _ _
  refine wpAny_bind (nextItem (((q2.extBut s1.extBut D.i2z).extBut s2.extBut D.i12.symm).extBut s3.extBut D.TOi2.symm) (((qt.extBut s1.extBut D.l2z).extBut s2.extBut D.l2i1).extBut s3.extBut D.l2TO) hy fun h4 q24 s4 => wpAny_pure ?_)
  have qO4 : IsPair h4 O x b := s4.extBut _ _ D.TOi2 qO3
  refine wpAny_bind (wpAny_seqItems qO4 rfl ?_)
  refine wpAny_bind (wpAny_updateSeq_pair qO4 fun h5 qO5 s5 => ?_)
  replace qO5 : IsPair h5 O x y := qO5
  refine wpAny_bind (wpAny_letGo (wpAny_pure (wpAny_pure ?_)))
  refine wpAny_bind (wpAny_seqItems qO5 rfl ?_)
  refine wpAny_bind (wpAny_newTuple ?_)
  have hsz : h5.objs.size = s.heap.objs.size := by rw [s5.1, s4.1, s3.1, s2.1, s1.1]
  have qz5 : IsZip h5 z I O .ellipsis := s5.extBut _ _ D.TOz.symm (s4.extBut _ _ D.i2z.symm (s3.extBut _ _ D.TOz.symm (s2.extBut _ _ D.i1z.symm qz1)))
  have old : ∀ c o, c ≠ z → c ≠ O → c ≠ i → c ≠ j → s.heap.get? c = some o → h5.get? c = some o := fun c o c1 c2 c3 c4 e => s5.extBut _ _ c2 (s4.extBut _ _ c4 (s3.extBut _ _ c2 (s2.extBut _ _ c3 (s1.extBut _ _ c1 e))))
  have q15 : h5.IsListIter i l (n + 1) := ((q12.extBut s3.extBut D.TOi1.symm).extBut s4.extBut D.i12).extBut s5.extBut D.TOi1.symm
  have q25 : h5.IsTupleIter j t (m + 1) := q24.extBut s5.extBut D.TOi2.symm
  have zl : z < h5.objs.size := Heap.lt_size qz5
  show wpAny _ _ (Builtin.SmallTypes.ownedTupleHandOut (.ref z) (.ref h5.objs.size) >>= _) _ _ _
  refine wpAny_bind ?_
  unfold Builtin.SmallTypes.ownedTupleHandOut
  have qz6 : IsZip (h5.push { cls := .type "tuple", data := .seq #[x, y] }) z I O .ellipsis := Heap.get?_push_of_some _ qz5
  refine wpAny_bind (wpAny_setField_rec qz6 (by simp) fun h7 qz7 s7 => ?_)
  replace qz7 : IsZip h7 z I O (rawInt h5.objs.size) := qz7
  refine wpAny_setField_rec qz7 (by simp) fun h8 qz8 s8 => ?_
  replace qz8 : IsZip h8 z I O (rawInt h5.objs.size) := qz8
  have up : ∀ c o, c ≠ z → h5.get? c = some o → h8.get? c = some o := fun c o c1 e => s8.extBut _ _ c1 (s7.extBut _ _ c1 (Heap.get?_push_of_some _ e))
  have qT : IsPair h8 h5.objs.size x y := s8.extBut _ _ (Nat.ne_of_gt zl) (s7.extBut _ _ (Nat.ne_of_gt zl) (Heap.get?_push_size _ rfl))
  have sz8 : h8.objs.size = h5.objs.size + 1 := by rw [s8.1, s7.1, Heap.size_push]
  rw [hsz] at qz8 qT sz8
  refine wpAny_pure ⟨_, rfl, ?_⟩
  show Q (.ref h5.objs.size) _
  rw [hsz]
  obtain ⟨oj, ej, rj⟩ := q25
  exact k h8 qz8 (up _ _ D.TOz qO5) (q15.at fun o e => up _ o D.i1z e) ⟨oj, up _ _ D.i2z ej, rj⟩ qT sz8 fun c o c1 c2 c3 c4 e => up c o c1 (old c o c1 c2 c3 c4 e)
theorem stop {z I O i j l t : Addr} {n m : Nat} {xs ys : Array Value} {a b : Value} {Q : Fin → Shared → Prop} (hh : A.handled = none) (D : ZipApart z I O i j l t) (qz : IsZip s.heap z I O .none) (qI : IsPair s.heap I (.ref i) (.ref j)) (qO : IsPair s.heap O a b)
    (q1 : s.heap.IsListIter i l n) (q2 : s.heap.IsTupleIter j t m) (ql : s.heap.IsList l xs) (qt : s.heap.IsTuple t ys) (hend : xs[n]? = none ∨ ys[m]? = none)
    (k : ∀ h' e, (∀ c o, c ≠ z → c ≠ O → c ≠ i → c ≠ j → s.heap.get? c = some o → h'.get? c = some o) → (∃ o, h'.get? e = some o ∧ o.cls = .type "StopIteration") → E (.ref e) { s with heap := h' }) :
    wpAny (model prog w) A (Builtin.«zip.__next__» ⟨[.ref z], []⟩) Q E s := by
  show wpAny _ _ (field (.ref z) 2 >>= _) _ _ _
  refine wpAny_bind (wpAny_field qz rfl (x := .bool false) rfl ?_)
  show wpAny _ _ (field (.ref z) 3 >>= _) _ _ _
  refine wpAny_bind (wpAny_field qz rfl (x := .ref I) rfl ?_)
  refine wpAny_bind (wpAny_seqItems qI rfl ?_)
  show wpAny _ _ (Builtin.SmallTypes.ownedTupleIsFree (.ref z) >>= _) _ _ _
  refine wpAny_bind ?_
  unfold Builtin.SmallTypes.ownedTupleIsFree
  refine wpAny_bind (wpAny_field qz rfl (x := .none) rfl (wpAny_pure ?_))
  simp only [if_true]
  refine wpAny_bind (wpAny_rule ?_)
  refine wpAny_bind (wpAny_field qz rfl (x := .ref O) rfl ?_)
  refine wpAny_bind (wpAny_setField_rec qz (by simp) fun h1 qz1 s1 => ?_)
  replace qz1 : IsZip h1 z I O .ellipsis := qz1
  refine wpAny_bind ?_
  simp only [List.forIn_cons, List.forIn_nil, List.zipIdx_cons, List.zipIdx_nil]
  refine wpAny_bind (wpAny_bind (wpAny_onRaise ?_))
  show wpAny _ _ (Builtin.SmallTypes.nextOf (.ref i) >>= _) _ _ _
  cases hx : xs[n]? with
  | none =>
    refine wpAny_bind (wpAny_nextOf_list_end hh (q1.extBut s1.extBut D.i1z) (ql.extBut s1.extBut D.l1z) hx fun h2 e s2 he => ?_)
    obtain ⟨oe, ge, ce⟩ := he
    have qz2 : IsZip h2 z I O .ellipsis := s2 _ _ D.i1z.symm qz1
    have ez : e ≠ z := fun q => by subst q; rw [qz2] at ge; cases ge; simp at ce
    exact wpAny_setField_rec qz2 (by simp) fun h3 _ s3 => k h3 e (fun c o c1 _ c3 _ q => s3.extBut _ _ c1 (s2 _ _ c3 (s1.extBut _ _ c1 q))) ⟨oe, s3.extBut _ _ ez ge, ce⟩
  | some x =>
    have hy : ys[m]? = none := by
      rcases hend with q | q
      · rw [hx] at q; cases q
      · exact q
    refine wpAny_bind (wpAny_nextOf_list_item (q1.extBut s1.extBut D.i1z) (ql.extBut s1.extBut D.l1z) hx fun h2 q12 s2 => wpAny_pure ?_)
    have qO2 : IsPair h2 O a b := s2.extBut _ _ D.TOi1 (s1.extBut _ _ D.TOz qO)
    refine wpAny_bind (wpAny_seqItems qO2 rfl ?_)
    refine wpAny_bind (wpAny_updateSeq_pair qO2 fun h3 qO3 s3 => ?_)
    refine wpAny_bind (wpAny_letGo (wpAny_pure ?_))
    refine wpAny_bind (wpAny_bind (wpAny_onRaise ?_))
    show wpAny _ _ (Builtin.SmallTypes.nextOf (.ref j) >>= _) _ _ _
    refine wpAny_bind (nextEnd hh (((q2.extBut s1.extBut D.i2z).extBut s2.extBut D.i12.symm).extBut s3.extBut D.TOi2.symm) (((qt.extBut s1.extBut D.l2z).extBut s2.extBut D.l2i1).extBut s3.extBut D.l2TO) hy fun h4 e s4 he => ?_)
    obtain ⟨oe, ge, ce⟩ := he
    have qz4 : IsZip h4 z I O .ellipsis := s4 _ _ D.i2z.symm (s3.extBut _ _ D.TOz.symm (s2.extBut _ _ D.i1z.symm qz1))
    have ez : e ≠ z := fun q => by subst q; rw [qz4] at ge; cases ge; simp at ce
    exact wpAny_setField_rec qz4 (by simp) fun h5 _ s5 => k h5 e (fun c o c1 c2 c3 c4 q => s5.extBut _ _ c1 (s4 _ _ c4 (s3.extBut _ _ c2 (s2.extBut _ _ c3 (s1.extBut _ _ c1 q))))) ⟨oe, s5.extBut _ _ ez ge, ce⟩
theorem nextOne {z I O i j l t : Addr} {n m : Nat} {xs ys : Array Value} {x y a b : Value} {Q : Option Value → Shared → Prop} (D : ZipApart z I O i j l t) (qz : IsZip s.heap z I O .none) (qI : IsPair s.heap I (.ref i) (.ref j)) (qO : IsPair s.heap O a b)
    (q1 : s.heap.IsListIter i l n) (q2 : s.heap.IsTupleIter j t m) (ql : s.heap.IsList l xs) (qt : s.heap.IsTuple t ys) (hx : xs[n]? = some x) (hy : ys[m]? = some y)
    (k : ∀ h', IsZip h' z I O (rawInt s.heap.objs.size) → IsPair h' O x y → h'.IsListIter i l (n + 1) → h'.IsTupleIter j t (m + 1) → IsPair h' s.heap.objs.size x y → h'.objs.size = s.heap.objs.size + 1 →
      (∀ c o, c ≠ z → c ≠ O → c ≠ i → c ≠ j → s.heap.get? c = some o → h'.get? c = some o) → Q (some (.ref s.heap.objs.size)) { s with heap := h' }) : wpAny (model prog w) A (pyNext (.ref z)) Q E s := by
  have ty : s.TypeIs (.ref z) "zip" := ⟨_, qz, rfl⟩
  unfold pyNext
  exact wpAny_bind (wpAny_attempt (wpAny_callSpecial?_slot (name := Str.ofString "__next__") ty F.slot_zip_next (wpAny_call_entry F.slot_zip_next ty F.entry_zip_next
    (both D qz qI qO q1 q2 ql qt hx hy fun h' a1 a2 a3 a4 a5 a6 a7 => wpAny_pure (k h' a1 a2 a3 a4 a5 a6 a7)) (F.args_zip_next_1 _))))
theorem nextNone {z I O i j l t : Addr} {n m : Nat} {xs ys : Array Value} {a b : Value} {Q : Option Value → Shared → Prop} (hh : A.handled = none) (D : ZipApart z I O i j l t) (qz : IsZip s.heap z I O .none) (qI : IsPair s.heap I (.ref i) (.ref j)) (qO : IsPair s.heap O a b)
    (q1 : s.heap.IsListIter i l n) (q2 : s.heap.IsTupleIter j t m) (ql : s.heap.IsList l xs) (qt : s.heap.IsTuple t ys) (hend : xs[n]? = none ∨ ys[m]? = none)
    (k : ∀ h', (∀ c o, c ≠ z → c ≠ O → c ≠ i → c ≠ j → s.heap.get? c = some o → h'.get? c = some o) → Q none { s with heap := h' }) : wpAny (model prog w) A (pyNext (.ref z)) Q E s := by
  have ty : s.TypeIs (.ref z) "zip" := ⟨_, qz, rfl⟩
  unfold pyNext
  refine wpAny_bind (wpAny_attempt (wpAny_callSpecial?_slot (name := Str.ofString "__next__") ty F.slot_zip_next (wpAny_call_entry F.slot_zip_next ty F.entry_zip_next
    (stop hh D qz qI qO q1 q2 ql qt hend fun h' e hk he => ?_) (F.args_zip_next_1 _))))
  obtain ⟨o, ho, hc⟩ := he
  refine wpAny_bind (wpAny_isInstance (T := "StopIteration") (b := true) ⟨o, ho, hc⟩ isSubtype_stop ?_)
  exact wpAny_pure (k _ hk)
end
abbrev m1 (h : Heap) (l : Addr) : Heap := h.push { cls := .type "list_iterator", data := .fields #[.ref l, .int 0 0] }
abbrev m2 (h : Heap) (l t : Addr) : Heap := (m1 h l).push { cls := .type "tuple_iterator", data := .fields #[.ref t, .int 0 0] }
abbrev m3 (h : Heap) (l t : Addr) : Heap := (m2 h l t).push { cls := .type "tuple", data := .seq #[.ref h.objs.size, .ref (m1 h l).objs.size] }
abbrev m4 (h : Heap) (l t : Addr) : Heap := (m3 h l t).push { cls := .type "tuple", data := .seq #[.none, .none] }
abbrev m5 (h : Heap) (l t : Addr) : Heap := (m4 h l t).push { cls := .type "zip", data := .fields #[.none, .bool false, .bool false, .ref (m2 h l t).objs.size, .ref (m3 h l t).objs.size] }
theorem made (l t : Addr) (xs ys : Array Value) : Meets (Builtin.«zip.__new__» ⟨[.type "zip", .ref l, .ref t], []⟩) (fun _ R s => s.heap.IsList l xs ∧ s.heap.IsTuple t ys ∧ R (.ok (.ret (.ref (m4 s.heap l t).objs.size))) { s with heap := m5 s.heap l t }) :=
  .of_wp fun prog w A R s h => by
    obtain ⟨hp, g, d, tk, os⟩ := s
    obtain ⟨ql, qt, h⟩ := h
    have hsub := sub_zip
    have hL1 : Heap.IsList (Shared.heap ⟨hp, g, d, tk, os⟩) l xs := ql
    have hL2 : Heap.IsTuple (Shared.heap ⟨hp.push { cls := .type "list_iterator", data := .fields #[.ref l, .int 0 0] }, g, d, tk, os⟩) t ys := Heap.IsTuple.push qt _
    wp_walk using wpAny_pyIter_list hL1, wpAny_pyIter_tuple hL2
    exact ⟨_, rfl, h⟩
theorem called {prog : Program} {w : World} {A : Around} {E : Value → Shared → Prop} {s : Shared} {l t : Addr} {xs ys : Array Value} {Q : Value → Shared → Prop} (ql : s.heap.IsList l xs) (qt : s.heap.IsTuple t ys)
    (k : ∀ h', IsZip h' (s.heap.objs.size + 4) (s.heap.objs.size + 2) (s.heap.objs.size + 3) .none → IsPair h' (s.heap.objs.size + 2) (.ref s.heap.objs.size) (.ref (s.heap.objs.size + 1)) → IsPair h' (s.heap.objs.size + 3) .none .none →
      h'.IsListIter s.heap.objs.size l 0 → h'.IsTupleIter (s.heap.objs.size + 1) t 0 → h'.objs.size = s.heap.objs.size + 5 → (∀ c o, s.heap.get? c = some o → h'.get? c = some o) → Q (.ref (s.heap.objs.size + 4)) { s with heap := h' }) :
    wpAny (model prog w) A (call (.type "zip") [.ref l, .ref t]) Q E s := by
  refine callType_new F.called_zip (by decide) (F.typeCall_zip_2 _ _) (F.newCall_zip_2 _ _) (fun obj => F.args_object_init_3 obj _ _) F.entry_zip_new (made l t xs ys) ⟨ql, qt, ?_⟩
  have n1 : (m1 s.heap l).objs.size = s.heap.objs.size + 1 := Heap.size_push ..
  have n2 : (m2 s.heap l t).objs.size = s.heap.objs.size + 2 := by rw [Heap.size_push, n1]
  have n3 : (m3 s.heap l t).objs.size = s.heap.objs.size + 3 := by rw [Heap.size_push, n2]
  have n4 : (m4 s.heap l t).objs.size = s.heap.objs.size + 4 := by rw [Heap.size_push, n3]
  have n5 : (m5 s.heap l t).objs.size = s.heap.objs.size + 5 := by rw [Heap.size_push, n4]
  have up := fun (h : Heap) (o : Obj) (c : Addr) (x : Obj) (e : h.get? c = some x) => Heap.get?_push_of_some o e
  have g5 : (m5 s.heap l t).get? (m4 s.heap l t).objs.size = some _ := Heap.get?_push_size _ rfl
  have g4 : (m5 s.heap l t).get? (m3 s.heap l t).objs.size = some _ := up _ _ _ _ (Heap.get?_push_size _ rfl)
  have g3 : (m5 s.heap l t).get? (m2 s.heap l t).objs.size = some _ := up _ _ _ _ (up _ _ _ _ (Heap.get?_push_size _ rfl))
  have g2 : (m5 s.heap l t).get? (m1 s.heap l).objs.size = some _ := up _ _ _ _ (up _ _ _ _ (up _ _ _ _ (Heap.get?_push_size _ rfl)))
  have g1 : (m5 s.heap l t).get? s.heap.objs.size = some _ := up _ _ _ _ (up _ _ _ _ (up _ _ _ _ (up _ _ _ _ (Heap.get?_push_size _ rfl))))
  show _ ∧ _
  rw [n2, n3, n4] at g5
  rw [n1, n2] at g3
  rw [n3] at g4
  rw [n1] at g2
  rw [n4]
  exact ⟨⟨_, g5, rfl⟩, k _ g5 g3 g4 ⟨_, g1, rfl, rfl⟩ ⟨_, g2, rfl, rfl⟩ n5 fun c o x => up _ _ _ _ (up _ _ _ _ (up _ _ _ _ (up _ _ _ _ (up _ _ _ _ x))))⟩
end Zt
end PySem
namespace L2
open PySem PySem.Spec PyProof.Rows
def Itzt (K : PySem.W.Frag) (a b : Addr) : It :=
  ⟨fun i H => ∃ (xs ys : List V) (x y : V), SqL K H a xs ∧ SqT K H b ys ∧ xs[i]? = some x ∧ ys[i]? = some y,
    fun i H v H' => ∃ p x y, v = .ref p ∧ H p = none ∧ H' = upd H p (.tup [x, y]) ∧ (∀ xs, SqL K H a xs → xs[i]? = some x) ∧ ∀ ys, SqT K H b ys → ys[i]? = some y,
    fun i H => ∃ xs ys : List V, SqL K H a xs ∧ SqT K H b ys ∧ (xs.length ≤ i ∨ ys.length ≤ i)⟩
theorem turn_zipT {P : Program} {w : World} {K : PySem.W.Frag} {elts : List Expr} {kk : Nat} {tpos : Pos} {a b z I O i1 i2 : Addr} (D : ZipApart z I O i1 i2 a b) :
    Turn P w K (.Tuple elts kk tpos) (Itzt K a b) [z, I, O, i1, i2] z (fun i h => IsZip h z I O .none ∧ IsPair h I (.ref i1) (.ref i2) ∧ (∃ x y, IsPair h O x y) ∧ h.IsListIter i1 a i ∧ h.IsTupleIter i2 b i) where
  mem := by simp
  obj := fun i h st c hc => by
    obtain ⟨qz, qI, ⟨x, y, qO⟩, ⟨o1, e1, _, d1⟩, ⟨o2, e2, _, d2⟩⟩ := st
    have e' : c = z ∨ c = I ∨ c = O ∨ c = i1 ∨ c = i2 := by simpa using hc
    rcases e' with rfl | rfl | rfl | rfl | rfl
    · exact ⟨_, qz, fun v q => nomatch q⟩
    · exact ⟨_, qI, fun v q => nomatch q⟩
    · exact ⟨_, qO, fun v q => nomatch q⟩
    · exact ⟨o1, e1, fun v q => by rw [d1] at q; cases q⟩
    · exact ⟨o2, e2, fun v q => by rw [d2] at q; cases q⟩
  keep := fun i h h' st k => by
    obtain ⟨qz, qI, ⟨x, y, qO⟩, h1, o2, e2, r2⟩ := st
    exact ⟨k z (by simp) _ qz, k I (by simp) _ qI, ⟨x, y, k O (by simp) _ qO⟩, h1.at fun o q => k i1 (by simp) o q, o2, k i2 (by simp) _ e2, r2⟩
  item := by
    intro X hP hw hK hc i pins s σ H E II hf st hg
    subst hP hw hK
    obtain ⟨qz, qI, ⟨x0, y0, qO⟩, h1, h2⟩ := st
    obtain ⟨xs, ys, x, y, hqx, hqy, hx, hy⟩ := hg
    obtain ⟨its, rv, p, _⟩ := II.list hqx
    obtain ⟨its2, rv2, p2, _⟩ := II.tuple hqy
    obtain ⟨u, hu, ru⟩ := rv.get hx
    obtain ⟨u2, hu2, ru2⟩ := rv2.get hy
    have zl : z < s.heap.objs.size := Heap.lt_size qz
    refine Zt.nextOne D qz qI qO h1 h2 p.isList p2 (x := u) (y := u2) (by simpa using hu) (by simpa using hu2) fun h' z' O' h1' h2' hT hsz hk => ?_
    refine ⟨_, rfl, wpAny_letOwnedTupleGo_zip (s := { s with heap := h' }) z' fun h'' z'' sb => ?_⟩
    have hT2 : h''.get? s.heap.objs.size = some { cls := .type "tuple", data := .seq #[u, u2] } := (sb.2 _ (Nat.ne_of_gt zl)).trans hT
    have new : ObjOk X.prog X.w (upd H s.heap.objs.size (.tup [x, y])) h'' s.heap.objs.size (.tup [x, y]) := ⟨by show 2 ≤ sizeLine; decide, [u, u2], .cons ru (.cons ru2 .nil), ⟨_, hT2, rfl, _, rfl⟩⟩
    have I1 : Inv X pins σ (upd H s.heap.objs.size (.tup [x, y])) { s with heap := h'' } := II.turnedNew (t' := s.toks) (ch := [z, I, O, i1, i2])
      (fun c o hb q => (sb.2 c (fun q' => hb (by simp [q']))).trans (hk c o (fun q' => hb (by simp [q'])) (fun q' => hb (by simp [q'])) (fun q' => hb (by simp [q'])) (fun q' => hb (by simp [q'])) q)) hf (Nat.le_refl _) new
    refine ⟨.ref s.heap.objs.size, _, I1, rfl, ⟨_, x, y, rfl, II.hok.fresh (Nat.le_refl _), rfl, fun l hl => by rw [II.list_inj hl hqx]; exact hx, fun l hl => ?_⟩, ⟨z'', ?_, ⟨u, u2, ?_⟩, ?_, ?_⟩, fun c hcm => ?_⟩
    · rw [II.tuple_inj hl hqy]; exact hy
    · exact (sb.2 _ D.TIz).trans (hk _ _ D.TIz D.TITO D.TIi1 D.TIi2 qI)
    · exact (sb.2 _ D.TOz).trans O'
    · exact h1'.at fun o q => (sb.2 _ D.i1z).trans q
    · obtain ⟨o2, e2, r2⟩ := h2'
      exact ⟨o2, (sb.2 _ D.i2z).trans e2, r2⟩
    · have hlt : c < s.heap.objs.size := by
        have e' : c = z ∨ c = I ∨ c = O ∨ c = i1 ∨ c = i2 := by simpa using hcm
        rcases e' with q | q | q | q | q
        · rw [q]; exact zl
        · rw [q]; exact Heap.lt_size qI
        · rw [q]; exact Heap.lt_size qO
        · rw [q]; obtain ⟨_, e1, _⟩ := h1; exact Heap.lt_size e1
        · rw [q]; obtain ⟨_, e2, _⟩ := h2; exact Heap.lt_size e2
      rw [upd_ne (Nat.ne_of_lt hlt)]
      exact (hf c hcm).1
  done := by
    intro X hP hw hK hc i pins s σ H E II hf st hg
    subst hP hw hK
    obtain ⟨qz, qI, ⟨x0, y0, qO⟩, h1, h2⟩ := st
    obtain ⟨xs, ys, hqx, hqy, hend⟩ := hg
    obtain ⟨its, rv, p, _⟩ := II.list hqx
    obtain ⟨its2, rv2, p2, _⟩ := II.tuple hqy
    have l1 := rv.length
    have l2 := rv2.length
    have he : its.toArray[i]? = none ∨ its2.toArray[i]? = none := by
      rcases hend with q | q
      · exact .inl (by simp; omega)
      · exact .inr (by simp; omega)
    exact Zt.nextNone (II.ok.hd hc) D qz qI qO h1 h2 p.isList p2 he fun h' hk => ⟨rfl, II.turnedL (t' := s.toks) (ch := [z, I, O, i1, i2])
      (fun c o hb q => hk c o (fun q' => hb (by simp [q'])) (fun q' => hb (by simp [q'])) (fun q' => hb (by simp [q'])) (fun q' => hb (by simp [q'])) q) hf⟩
  self := fun A i s Q E st h => wpAny_pyIter_zip st.1 h
def iZipT (K : PySem.W.Frag) (ta : TA) : TI := fun σ H R => ta σ H fun vs H1 => ∃ a b xs ys, vs = [.ref a, .ref b] ∧ SqL K H1 a xs ∧ SqT K H1 b ys ∧ R (Itzt K a b) H1
theorem pi_zipT {X : Cx} {e e2 : Expr} {ta : TA} {p pos tpos : Pos} {elts : List Expr} {kk : Nat} (hg : Gl X "zip") (hm : X.mg "zip" = none) (ha : PA X [e, e2] ta)
    (hs : starEach [e, e2] X.env = (false, eval e X.env) :: starEach [e2] X.env := by rfl) (hpl : (backTo pos (starEach [e2] X.env)).any (·.1) = false := by rfl) :
    PI X (.Tuple elts kk tpos) (.Call (.Name "zip" p) [e, e2] [] pos) (iZipT X.K ta) := by
  intro pins s σ H R I h
  refine Call_ (ld_blt I hg hm boot_zip5 (PyProof.Rows.callWith_type1 (thn (ha pos pins s σ H _ I h) fun us s1 ⟨vs, H1, I1, r1, q1⟩ => ?_) hs hpl))
  obtain ⟨a, b, xs, ys, ex, hqx, hqy, q⟩ := q1
  subst ex
  cases r1 with
  | cons r rr =>
    cases rr with
    | cons r' rr =>
      cases rr; cases r; cases r'
      obtain ⟨its, rv, p1, _⟩ := I1.list hqx
      obtain ⟨its2, rv2, p2, _⟩ := I1.tuple hqy
      have la : a < s1.heap.objs.size := p1.lt
      have lb : b < s1.heap.objs.size := by obtain ⟨_, e2, _⟩ := id p2; exact Heap.lt_size e2
      refine Zt.called p1.isList p2 fun h' qz qI qO h1 h2 hsz hk => wpAny_pyIter_zip qz ?_
      have I2 : Inv X pins σ H1 { s1 with heap := h' } := I1.kept (t' := s1.toks) hk
      refine ⟨s1.heap.objs.size + 4, [s1.heap.objs.size + 4, s1.heap.objs.size + 2, s1.heap.objs.size + 3, s1.heap.objs.size, s1.heap.objs.size + 1], _, _, H1, rfl, I2, turn_zipT (PySem.W.ktu_apart s1.heap.objs.size a b la lb), ⟨qz, qI, ⟨_, _, qO⟩, h1, h2⟩, fun c hcm => ?_, q⟩
      have hle : s1.heap.objs.size ≤ c := by
        have e' : c = s1.heap.objs.size + 4 ∨ c = s1.heap.objs.size + 2 ∨ c = s1.heap.objs.size + 3 ∨ c = s1.heap.objs.size ∨ c = s1.heap.objs.size + 1 := by simpa using hcm
        rcases e' with z | z | z | z | z
        · rw [z]; exact Nat.le_add_right _ _
        · rw [z]; exact Nat.le_add_right _ _
        · rw [z]; exact Nat.le_add_right _ _
        · rw [z]; exact Nat.le_refl _
        · rw [z]; exact Nat.le_add_right _ _
      exact I1.fpOk hle (I1.hok.fresh hle)
def pickV {α : Type} (xs : List α) (c k : Nat) : List α := (List.range ((xs.length - c + k - 1) / k)).filterMap fun j => xs[c + k * j]?
theorem bounds_step {c k n : Nat} (hc : c ≤ n) (hk : 1 ≤ k) : sliceBounds (some (c : Int)) none (some (k : Int)) n = ((c : Int), (n : Int), (k : Int)) := by
  unfold sliceBounds
  have h1 : (k : Int) > 0 := by omega
  have h2 : ¬ ((c : Int) < 0) := by omega
  simp only [Option.getD_some, if_pos h1, if_neg h2]
  congr 1; omega
theorem range_step {c k n : Nat} (hc : c ≤ n) (hk : 1 ≤ k) : sliceRange (c : Int) (n : Int) (k : Int) = (List.range ((n - c + k - 1) / k)).map fun j => c + k * j := by
  unfold sliceRange
  have h1 : (k : Int) > 0 := by omega
  simp only [if_pos h1]
  have e : (if (c : Int) < n then ((n : Int) - c + k - 1) / k else 0).toNat = (n - c + k - 1) / k := by
    by_cases h : c < n
    · rw [if_pos (by omega), show (n : Int) - c + k - 1 = ((n - c + k - 1 : Nat) : Int) by omega, ← Int.natCast_ediv, Int.toNat_natCast]
    · rw [if_neg (by omega), Int.toNat_zero, show n - c + k - 1 = k - 1 by omega, Nat.div_eq_of_lt (by omega)]
  rw [e]
  refine List.map_congr_left fun j _ => ?_
  rw [← Int.natCast_mul, ← Int.natCast_add, Int.toNat_natCast]
theorem pick_step {its : List Value} {c k : Nat} (hc : c ≤ its.length) (hk : 1 ≤ k) : slicePick its.toArray (some (c : Int)) none (some (k : Int)) = (pickV its c k).toArray := by
  unfold slicePick
  rw [List.size_toArray, bounds_step hc hk]
  simp only
  rw [range_step hc hk, List.filterMap_map]
  unfold pickV
  congr 1
  refine congrArg (fun f => List.filterMap f _) (funext fun j => ?_)
  simp
theorem pickV_vals {xs : List V} {us : List Value} (r : Vals xs us) (c k : Nat) : Vals (pickV xs c k) (pickV us c k) := by
  have hl := r.length
  unfold pickV
  rw [hl]
  generalize (us.length - c + k - 1) / k = m
  have : ∀ l : List Nat, Vals (l.filterMap fun j => xs[c + k * j]?) (l.filterMap fun j => us[c + k * j]?) := by
    intro l
    induction l with
    | nil => exact .nil
    | cons j l ih =>
      rw [List.filterMap_cons, List.filterMap_cons]
      cases e : xs[c + k * j]? with
      | none =>
        have : us[c + k * j]? = none := by
          rw [List.getElem?_eq_none_iff] at e ⊢
          omega
        rw [this]
        exact ih
      | some x =>
        obtain ⟨u, hu, ru⟩ := r.get e
        rw [hu]
        exact .cons ru ih
  exact this _
theorem pickV_len {α : Type} (xs : List α) (c k : Nat) (hk : 1 ≤ k) : (pickV xs c k).length ≤ xs.length := by
  unfold pickV
  refine Nat.le_trans (List.length_filterMap_le _ _) ?_
  rw [List.length_range]
  rcases Nat.eq_zero_or_pos (xs.length - c) with h | h
  · rw [h, Nat.div_eq_of_lt (by omega)]; omega
  · refine Nat.le_trans (Nat.div_le_of_le_mul (n := xs.length - c) ?_) (Nat.sub_le _ _)
    have := Nat.mul_le_mul (show 1 ≤ k from hk) (show 1 ≤ xs.length - c from h)
    generalize xs.length - c = d at *
    obtain ⟨d', rfl⟩ : ∃ d', d = d' + 1 := ⟨d - 1, by omega⟩
    obtain ⟨k', rfl⟩ : ∃ k', k = k' + 1 := ⟨k - 1, by omega⟩
    have : (k' + 1) * (d' + 1) = k' * d' + k' + d' + 1 := by rw [Nat.add_mul, Nat.mul_add]; omega
    omega
def tStep (K : PySem.W.Frag) (te tl ts : TE) : TE := fun σ H Q => te σ H fun x H1 => tl σ H1 fun y H2 => ts σ H2 fun z H3 => ∃ (a : Addr) (xs : List V) (c k : Nat), x = .ref a ∧ y = .int c ∧ z = .int k ∧ SqL K H3 a xs ∧ (c ≤ xs.length ∧ 1 ≤ k) ∧
  ∀ p, H3 p = none → Q (.ref p) (upd H3 p (.lst (pickV xs c k)))
theorem pe_step {X : Cx} {K : PySem.W.Frag} {e lo st : Expr} {te tl ts : TE} {pos p2 : Pos} (hK : X.K = K) (he : PE X e te) (hl : PE X lo tl) (hs : PE X st ts) : PE X (.Subscript e (.Slice (some lo) none (some st) p2) pos) (tStep K te tl ts) := by
  subst hK
  intro pins s σ H Q I h
  refine Subscript_ (thn (he pins s σ H _ I h) fun v s1 ⟨x, H1, I1, r1, q1⟩ => ?_)
  refine wpAny_Slice ?_
  rw [evalPart_some, evalPart_none, evalPart_some]
  refine thn (hl pins s1 σ H1 _ I1 q1) fun vl s2 ⟨y, H2, I2, r2, q2⟩ => ?_
  refine wpAny_pure ?_
  refine thn (hs pins s2 σ H2 _ I2 q2) fun vk s3 ⟨z, H3, I3, r3, q3⟩ => ?_
  obtain ⟨a, xs, c, k, rfl, rfl, rfl, hx, ⟨hc, hk⟩, q⟩ := q3
  obtain ⟨t2, rfl⟩ := r2
  obtain ⟨t3, rfl⟩ := r3
  cases r1
  have I4 : Inv X pins σ H3 { s3 with heap := s3.heap.push { cls := .type "slice", data := .fields #[.int c t2, .none, .int k t3] } } := I3.kept (t' := s3.toks) fun b ob q => Heap.get?_push_of_some _ q
  obtain ⟨its, r, ht, hz⟩ := I4.list hx
  have hlen := r.length
  have hg : wpAny (model X.prog X.w) X.A (getItem (.ref a) (.ref s3.heap.objs.size)) (EP X pins σ Q) X.xe { s3 with heap := s3.heap.push { cls := .type "slice", data := .fields #[.int c t2, .none, .int k t3] } } := by
    refine wpAny_getItem_list_slice ht.isList (Heap.IsSliceOf.new ..) (.int _ _) .none (.int _ _) (fun z => by have := Option.some.inj z; omega) ?_ (by rw [List.size_toArray]; omega)
    rw [pick_step (by omega) hk]
    refine ⟨.ref _, _, I4.laid (t' := s3.toks) (o := .lst (pickV xs c k)) (fun b ob q => Heap.get?_push_of_some _ q) (Nat.le_refl _) ?_, rfl, q _ (I4.hok.fresh (Nat.le_refl _))⟩
    exact ⟨Nat.le_trans (pickV_len xs c k hk) hz, _, 0, pickV_vals r c k, Heap.get?_push_size _ rfl⟩
  show wpAny (model X.prog X.w) X.A (subscriptTail e (.Slice (some lo) none (some st) p2) (.ref a) (.ref s3.heap.objs.size)) (EP X pins σ Q) X.xe { s3 with heap := s3.heap.push { cls := .type "slice", data := .fields #[.int c t2, .none, .int k t3] } }
  exact tail_any (ops := [.ref a, .ref s3.heap.objs.size]) ht.isList.typeIs slot_list_getitem.lookup hg (by with_unfolding_all rfl)
def tMask (t : TE) : TE := fun σ H Q => ∃ d xs, H d = some (.lst xs) ∧ ∀ φ, t σ (upd H d (.ext φ)) fun v H' => H' d = some (.ext φ) ∧ Q v (upd H' d (.lst xs))
theorem pe_mask {X : Cx} {e : Expr} {t : TE} (h : PE X e t) : PE X e (tMask t) := by
  intro pins s σ H Q I hw
  obtain ⟨d, xs, hd, hw⟩ := hw
  obtain ⟨z, its, n, r, e⟩ := I.hok d _ hd
  have new : ObjOk X.prog X.w (upd H d (.ext fun h => h.get? d = some { cls := .type "list", data := .seq its.toArray n })) s.heap d (.ext fun h => h.get? d = some { cls := .type "list", data := .seq its.toArray n }) := ⟨e, ⟨_, e⟩, fun h1 h2 p k => k _ p⟩
  have I1 := I.write (x := d) (e := d) (t' := s.toks) (h' := s.heap) (by rw [hd]; trivial) (.inl rfl) (fun b v _ q => q) ⟨_, e⟩ new
  refine thn (h pins s σ _ _ I1 (hw _)) fun v s1 ⟨x, H1, I2, r1, e1, q⟩ => ?_
  obtain ⟨p1, _, _⟩ := I2.hok d _ e1
  exact ⟨x, _, I2.write (x := d) (e := d) (o := .lst xs) (t' := s1.toks) (h' := s1.heap) (by rw [e1]; trivial) (.inl rfl) (fun b v _ q => q) ⟨_, p1⟩ ⟨z, its, n, r, p1⟩, r1, q⟩
theorem ixT {X : Cx} {K : PySem.W.Frag} (h : X.K = K) : IxR X (rIxT K) := by subst h; exact ix_tup
end L2
namespace L2
open PySem PySem.Spec PyProof.Rows
section
variable {X : Cx}
def rCatS (K : PySem.W.Frag) : R2 := fun x y H Q => ∃ l b xs zs, x = .ref l ∧ y = .ref b ∧ SqL K H l xs ∧ SqL K H b zs ∧ xs.length + zs.length ≤ sizeLine ∧ ∀ p, H p = none → Q (.ref p) (upd H p (.lst (xs ++ zs)))
theorem op_catS : OpR X (binaryOp .Add) (rCatS X.K) := by
  intro pins s σ H x y v u Q I rx ry h
  obtain ⟨l, b, xs, zs, rfl, rfl, hl, hb, hz, q⟩ := h
  cases rx
  cases ry
  obtain ⟨its, r1, ⟨⟨c1, d1, a1, s1⟩, n1, e1, k1, _, t1⟩, _⟩ := I.list hl
  obtain ⟨its2, r2, ⟨⟨c2, d2, a2, s2⟩, n2, e2, k2, _, t2⟩, _⟩ := I.list hb
  simp only at k1 t1 k2 t2
  subst k1 t1 k2 t2
  have ez : its.toArray.size + its2.toArray.size ≤ sizeLine := by rw [List.size_toArray, List.size_toArray, ← r1.length, ← r2.length]; exact hz
  refine concat_meets ⟨_, e1, rfl⟩ ⟨_, e2, rfl⟩ noFill_list_add seq_list_add PySem.F.slot_list_add PySem.F.entry_list_add (PySem.F.args_list_add_2 _ _) (list_addW l b its.toArray its2.toArray n1 n2 d1 d2 s1 s2 ez) ⟨e1, e2, ?_⟩
  have ea : its.toArray ++ its2.toArray = (its ++ its2).toArray := by simp
  rw [ea]
  exact ⟨.ref _, _, I.lnew (t' := s.toks) (r1.append r2) (by rw [List.length_append]; omega), rfl, q _ I.fresh⟩
end
end L2
namespace Wg
def ip : List Int → List Int → Int
  | a :: l, b :: m => a * b + ip l m
  | _, _ => 0
theorem ip_comm : ∀ l m : List Int, ip l m = ip m l
  | [], [] => rfl
  | [], _ :: _ => rfl
  | _ :: _, [] => rfl
  | a :: l, b :: m => by simp only [ip, ip_comm l m, Int.mul_comm]
def cmb (c d : Int) : List Int → List Int → List Int
  | a :: l, b :: m => (c * a - d * b) :: cmb c d l m
  | _, _ => []
theorem cmb_len (c d : Int) : ∀ {l m : List Int}, l.length = m.length → (cmb c d l m).length = l.length
  | [], [], _ => rfl
  | a :: l, b :: m, h => by simp only [cmb, List.length_cons]; rw [cmb_len c d (by simpa using h)]
theorem ip_cmb (c d : Int) : ∀ {l m k : List Int}, l.length = m.length → l.length = k.length → ip (cmb c d l m) k = c * ip l k - d * ip m k
  | [], [], [], _, _ => by simp [ip, cmb]
  | a :: l, b :: m, e :: k, h, h' => by
    simp only [cmb, ip]
    rw [ip_cmb c d (by simpa using h) (by simpa using h')]
    grind
theorem ip_nonneg : ∀ l : List Int, 0 ≤ ip l l
  | [] => by simp [ip]
  | a :: l => by
    have h1 := ip_nonneg l
    have h2 : 0 ≤ a * a := by rcases Int.le_total 0 a with h | h
                              · exact Int.mul_nonneg h h
                              · exact Int.mul_nonneg_of_nonpos_of_nonpos h h
    simp only [ip]; omega
theorem sq_nonneg (a : Int) : 0 ≤ a * a := by
  rcases Int.le_total 0 a with h | h
  · exact Int.mul_nonneg h h
  · exact Int.mul_nonneg_of_nonpos_of_nonpos h h
theorem ip_zero : ∀ {l m : List Int}, ip l l = 0 → ip l m = 0
  | [], m, _ => by cases m <;> rfl
  | a :: l, [], _ => rfl
  | a :: l, b :: m, h => by
    have h1 := ip_nonneg l
    have h2 := sq_nonneg a
    simp only [ip] at h ⊢
    have h3 : a * a = 0 := by omega
    have h4 : ip l l = 0 := by omega
    have h5 : a = 0 := by rcases Int.mul_eq_zero.mp h3 with h | h <;> exact h
    rw [ip_zero h4, h5]; omega
section
variable {v1 v2 v3 v4 : List Int}
structure Gram (g11 g12 g13 g14 g22 g23 g24 g33 g34 g44 : Int) : Prop where
  ex : ∃ v1 v2 v3 v4 : List Int, v1.length = v2.length ∧ v1.length = v3.length ∧ v1.length = v4.length ∧ g11 = ip v1 v1 ∧ g12 = ip v1 v2 ∧ g13 = ip v1 v3 ∧ g14 = ip v1 v4 ∧ g22 = ip v2 v2 ∧ g23 = ip v2 v3 ∧ g24 = ip v2 v4 ∧ g33 = ip v3 v3 ∧ g34 = ip v3 v4 ∧ g44 = ip v4 v4
end
section
variable {g11 g12 g13 g14 g22 g23 g24 g33 g34 g44 : Int}
theorem gram_first (G : Gram g11 g12 g13 g14 g22 g23 g24 g33 g34 g44) : 0 ≤ g11 ∧ (g11 = 0 → g12 = 0 ∧ g13 = 0 ∧ g14 = 0) := by
  obtain ⟨v1, v2, v3, v4, l2, l3, l4, rfl, rfl, rfl, rfl, _⟩ := G.ex
  exact ⟨ip_nonneg _, fun h => ⟨ip_zero h, ip_zero h, ip_zero h⟩⟩
structure Sub3 (c a22 a23 a24 a33 a34 a44 : Int) : Prop where
  ex : ∃ w2 w3 w4 : List Int, w2.length = w3.length ∧ w2.length = w4.length ∧ c * a22 = ip w2 w2 ∧ c * a23 = ip w2 w3 ∧ c * a24 = ip w2 w4 ∧ c * a33 = ip w3 w3 ∧ c * a34 = ip w3 w4 ∧ c * a44 = ip w4 w4
theorem gram_step (G : Gram g11 g12 g13 g14 g22 g23 g24 g33 g34 g44) :
    Sub3 g11 (g11 * g22 - g12 * g12) (g11 * g23 - g12 * g13) (g11 * g24 - g12 * g14) (g11 * g33 - g13 * g13) (g11 * g34 - g13 * g14) (g11 * g44 - g14 * g14) := by
  obtain ⟨v1, v2, v3, v4, l2, l3, l4, e1, e2, e3, e4, e5, e6, e7, e8, e9, e10⟩ := G.ex
  have k2 := cmb_len g11 g12 (l := v2) (m := v1) l2.symm
  have k3 := cmb_len g11 g13 (l := v3) (m := v1) l3.symm
  have k4 := cmb_len g11 g14 (l := v4) (m := v1) l4.symm
  have key : ∀ (c d : Int) (u z : List Int), v1.length = u.length → v1.length = z.length → c = ip v1 u → d = ip v1 z → ip (cmb g11 c u v1) (cmb g11 d z v1) = g11 * (g11 * ip u z - c * d) := fun c d u z h1 h2 hc hd => by
    rw [ip_cmb _ _ h1.symm (by rw [cmb_len _ _ h2.symm]; omega), ip_comm u, ip_comm v1, ip_cmb _ _ h2.symm (by omega), ip_cmb _ _ h2.symm (by omega), ← e1, ip_comm z u, ip_comm z v1, ← hd, ← hc]
    grind
  refine ⟨cmb g11 g12 v2 v1, cmb g11 g13 v3 v1, cmb g11 g14 v4 v1, by omega, by omega, ?_, ?_, ?_, ?_, ?_, ?_⟩
  · rw [key _ _ _ _ l2 l2 e2 e2, e5]
  · rw [key _ _ _ _ l2 l3 e2 e3, e6]
  · rw [key _ _ _ _ l2 l4 e2 e4, e7]
  · rw [key _ _ _ _ l3 l3 e3 e3, e8]
  · rw [key _ _ _ _ l3 l4 e3 e4, e9]
  · rw [key _ _ _ _ l4 l4 e4 e4, e10]
theorem sub3_first {c a22 a23 a24 a33 a34 a44 : Int} (hc : 0 < c) (S : Sub3 c a22 a23 a24 a33 a34 a44) : 0 ≤ a22 ∧ (a22 = 0 → a23 = 0 ∧ a24 = 0) := by
  obtain ⟨w2, w3, w4, l3, l4, e1, e2, e3, _⟩ := S.ex
  have h := ip_nonneg w2
  refine ⟨?_, fun z => ?_⟩
  · rw [← e1] at h
    exact Int.le_of_not_gt fun q => by
      have := Int.mul_neg_of_pos_of_neg hc q
      omega
  · rw [z, Int.mul_zero] at e1
    rw [ip_zero e1.symm] at e2 e3
    have hc' : c ≠ 0 := by omega
    exact ⟨(Int.mul_eq_zero.mp e2).resolve_left hc', (Int.mul_eq_zero.mp e3).resolve_left hc'⟩
structure Sub2 (c b33 b34 b44 : Int) : Prop where
  ex : ∃ u3 u4 : List Int, u3.length = u4.length ∧ c * b33 = ip u3 u3 ∧ c * b34 = ip u3 u4 ∧ c * b44 = ip u4 u4
theorem sub3_step {c a22 a23 a24 a33 a34 a44 : Int} (S : Sub3 c a22 a23 a24 a33 a34 a44) : Sub2 (c * c * c * a22) (a22 * a33 - a23 * a23) (a22 * a34 - a23 * a24) (a22 * a44 - a24 * a24) := by
  obtain ⟨w2, w3, w4, l3, l4, e1, e2, e3, e4, e5, e6⟩ := S.ex
  have key : ∀ (x y : Int) (u z : List Int), w2.length = u.length → w2.length = z.length → x = ip w2 u → y = ip w2 z → ip (cmb (c * a22) x u w2) (cmb (c * a22) y z w2) = c * a22 * (c * a22 * ip u z - x * y) := fun x y u z h1 h2 hx hy => by
    rw [ip_cmb _ _ h1.symm (by rw [cmb_len _ _ h2.symm]; omega), ip_comm u, ip_comm w2, ip_cmb _ _ h2.symm (by omega), ip_cmb _ _ h2.symm (by omega), ← e1, ip_comm z u, ip_comm z w2, ← hx, ← hy]
    grind
  refine ⟨cmb (c * a22) (c * a23) w3 w2, cmb (c * a22) (c * a24) w4 w2, by rw [cmb_len _ _ l3.symm, cmb_len _ _ l4.symm]; omega, ?_, ?_, ?_⟩
  · rw [key _ _ _ _ l3 l3 e2 e2, ← e4]; grind
  · rw [key _ _ _ _ l3 l4 e2 e3, ← e5]; grind
  · rw [key _ _ _ _ l4 l4 e3 e3, ← e6]; grind
theorem sub2_first {c b33 b34 b44 : Int} (hc : 0 < c) (S : Sub2 c b33 b34 b44) : 0 ≤ b33 ∧ (b33 = 0 → b34 = 0) ∧ 0 ≤ b33 * b44 - b34 * b34 := by
  obtain ⟨u3, u4, l4, e1, e2, e3⟩ := S.ex
  have h := ip_nonneg u3
  have hc' : c ≠ 0 := by omega
  have pos : ∀ {x : Int}, 0 ≤ c * x → 0 ≤ x := fun {x} hx => Int.le_of_not_gt fun q => by
    have := Int.mul_neg_of_pos_of_neg hc q
    omega
  have h33 : 0 ≤ b33 := pos (by rw [e1]; exact h)
  have z34 : b33 = 0 → b34 = 0 := fun z => by
    rw [z, Int.mul_zero] at e1
    rw [ip_zero e1.symm] at e2
    exact (Int.mul_eq_zero.mp e2).resolve_left hc'
  refine ⟨h33, z34, ?_⟩
  rcases Int.lt_or_eq_of_le h33 with hp | hz
  · have key : ip (cmb (c * b33) (c * b34) u4 u3) (cmb (c * b33) (c * b34) u4 u3) = c * b33 * (c * b33 * (c * b44) - c * b34 * (c * b34)) := by
      rw [ip_cmb _ _ l4.symm (by rw [cmb_len _ _ l4.symm]), ip_comm u4, ip_comm u3, ip_cmb _ _ l4.symm rfl, ip_cmb _ _ l4.symm (by omega), ← e1, ← e3, ip_comm u4 u3, ← e2]
      grind
    have nn := ip_nonneg (cmb (c * b33) (c * b34) u4 u3)
    rw [key] at nn
    have e : c * b33 * (c * b33 * (c * b44) - c * b34 * (c * b34)) = (c * c * c * b33) * (b33 * b44 - b34 * b34) := by grind
    rw [e] at nn
    have hq : 0 < c * c * c * b33 := Int.mul_pos (Int.mul_pos (Int.mul_pos hc hc) hc) hp
    exact Int.le_of_not_gt fun q => by
      have := Int.mul_neg_of_pos_of_neg hq q
      omega
  · rw [← hz, z34 hz.symm]; simp
end
end Wg
namespace Wg
open Sound
theorem det1 (a : Int) : det 1 [[a]] = a := by simp [det, sumOf, List.range, List.range.loop]
theorem det2 (a b c d : Int) : det 2 [[a,b],[c,d]] = a*d - b*c := by simp [det, sumOf, List.range, List.range.loop]; grind
theorem det3 (a11 a12 a13 a21 a22 a23 a31 a32 a33 : Int) : det 3 [[a11,a12,a13],[a21,a22,a23],[a31,a32,a33]] = a11*(a22*a33-a23*a32) - a12*(a21*a33-a23*a31) + a13*(a21*a32-a22*a31) := by
  simp [det, sumOf, List.range, List.range.loop]; grind
theorem det4 (a11 a12 a13 a14 a21 a22 a23 a24 a31 a32 a33 a34 a41 a42 a43 a44 : Int) : det 4 [[a11,a12,a13,a14],[a21,a22,a23,a24],[a31,a32,a33,a34],[a41,a42,a43,a44]] =
   a11 * det 3 [[a22,a23,a24],[a32,a33,a34],[a42,a43,a44]] - a12 * det 3 [[a21,a23,a24],[a31,a33,a34],[a41,a43,a44]] + a13 * det 3 [[a21,a22,a24],[a31,a32,a34],[a41,a42,a44]] - a14 * det 3 [[a21,a22,a23],[a31,a32,a33],[a41,a42,a43]] := by
  rw [det]
  simp only [List.range_succ, List.map, sumOf, List.foldl, List.eraseIdx, List.getD_cons_zero, List.getD_cons_succ]
  simp
  grind
def cleared (row chosen : List Int) (k : Nat) : List Int := List.zipWith (fun x y => chosen.getD k 0 * x - row.getD k 0 * y) row chosen
def stepRows (rows : List (List Int)) (k : Nat) : List (List Int) := rows.zipIdx.map fun x => if x.2 = k then x.1 else cleared x.1 (rows.getD k []) k
def solveFrom : Nat → Nat → List (List Int) → Option (List (List Int))
  | 0, _, rows => some rows
  | m + 1, k, rows => if (rows.getD k []).getD k 0 = 0 then none else solveFrom m (k + 1) (stepRows rows k)
def solved (rows : List (List Int)) : Option (List (List Int)) := solveFrom rows.length 0 rows
def Lin (p : Nat) (X : List Int) (D : Int) (row : List Int) : Prop := row.length = p + 1 ∧ ip (row.take p) X = D * row.getD p 0
theorem zip_cmb (c d : Int) : ∀ l m : List Int, List.zipWith (fun x y => c * x - d * y) l m = cmb c d l m
  | [], _ => by simp [cmb]
  | _ :: _, [] => by simp [cmb]
  | a :: l, b :: m => by rw [List.zipWith_cons_cons, zip_cmb c d l m]; rfl
theorem take_cmb (c d : Int) : ∀ (n : Nat) (l m : List Int), (cmb c d l m).take n = cmb c d (l.take n) (m.take n)
  | 0, _, _ => by simp [cmb]
  | n + 1, [], _ => by simp [cmb]
  | n + 1, _ :: _, [] => by simp [cmb]
  | n + 1, a :: l, b :: m => by simp [cmb, take_cmb c d n l m]
theorem getD_cmb (c d : Int) : ∀ (n : Nat) (l m : List Int), l.length = m.length → (cmb c d l m).getD n 0 = c * l.getD n 0 - d * m.getD n 0
  | n, [], [], _ => by simp [cmb]
  | 0, a :: l, b :: m, _ => by simp [cmb]
  | n + 1, a :: l, b :: m, h => by
    have := getD_cmb c d n l m (by simpa using h)
    simpa [cmb] using this
theorem lin_cleared {p : Nat} {X : List Int} {D : Int} {row chosen : List Int} {k : Nat} (hX : X.length = p) (h1 : Lin p X D row) (h2 : Lin p X D chosen) : Lin p X D (cleared row chosen k) := by
  have e : cleared row chosen k = cmb (chosen.getD k 0) (row.getD k 0) row chosen := zip_cmb _ _ _ _
  have hl : row.length = chosen.length := by rw [h1.1, h2.1]
  rw [e]
  refine ⟨by rw [cmb_len _ _ hl]; exact h1.1, ?_⟩
  rw [take_cmb, ip_cmb, h1.2, h2.2, getD_cmb _ _ _ _ _ hl]
  · grind
  · rw [List.length_take, List.length_take, h1.1, h2.1]
  · rw [List.length_take, h1.1, hX]; omega
theorem step_len (rows : List (List Int)) (k : Nat) : (stepRows rows k).length = rows.length := by simp [stepRows]
theorem lin_step {p : Nat} {X : List Int} {D : Int} {rows : List (List Int)} {k : Nat} (hX : X.length = p) (hk : k < rows.length) (h : ∀ r ∈ rows, Lin p X D r) : ∀ r ∈ stepRows rows k, Lin p X D r := by
  intro r hr
  obtain ⟨⟨q, i⟩, hx, rfl⟩ := List.mem_map.mp hr
  have hq : q ∈ rows := List.fst_mem_of_mem_zipIdx hx
  by_cases hi : i = k
  · simp only [if_pos hi]; exact h q hq
  · simp only [if_neg hi]
    refine lin_cleared hX (h q hq) ?_
    have : rows.getD k [] ∈ rows := by
      rw [List.getD_eq_getElem?_getD, List.getElem?_eq_getElem hk]; exact List.getElem_mem hk
    exact h _ this
theorem lin_solve {p : Nat} {X : List Int} {D : Int} (hX : X.length = p) : ∀ (m k : Nat) (rows out : List (List Int)), k + m ≤ rows.length → (∀ r ∈ rows, Lin p X D r) → solveFrom m k rows = some out → ∀ r ∈ out, Lin p X D r
  | 0, k, rows, out, _, h, e => by
    have e := Option.some.inj e
    subst e
    exact h
  | m + 1, k, rows, out, hk, h, e => by
    unfold solveFrom at e
    by_cases hz : (rows.getD k []).getD k 0 = 0
    · rw [if_pos hz] at e; cases e
    · rw [if_neg hz] at e
      exact lin_solve hX m (k + 1) _ out (by rw [step_len]; omega) (lin_step hX (by omega) h) e
structure Good (p : Nat) (rows : List (List Int)) (d : Int) (ns : List Int) : Prop where
  len : rows.length = p
  rlen : ∀ r ∈ rows, r.length = p + 1
  nlen : ns.length = p
  dne : d ≠ 0
  pos : ∀ i, i < p → 0 < (rows.getD i []).getD i 0
  eq : ∀ i, i < p → (rows.getD i []).getD p 0 * d = (rows.getD i []).getD i 0 * ns.getD i 0
theorem sol1 (g11 b1 : Int) (h0 : 0 ≤ g11) :
    (det 1 [[g11]] = 0 → solved [[g11, b1]] = none) ∧ (det 1 [[g11]] ≠ 0 → ∃ rows, solved [[g11, b1]] = some rows ∧ Good 1 rows (det 1 [[g11]]) [det 1 [[b1]]]) := by
  rw [det1, det1]
  refine ⟨fun h => by simp [solved, solveFrom, h], fun h => ⟨[[g11, b1]], by simp [solved, solveFrom, h, stepRows], ⟨rfl, by simp, rfl, h, ?_, ?_⟩⟩⟩
  · intro i hi
    have : i = 0 := by omega
    subst this
    simp; omega
  · intro i hi
    have : i = 0 := by omega
    subst this
    simp; exact Int.mul_comm _ _
theorem pos_of {x : Int} (h : 0 ≤ x) (h' : x ≠ 0) : 0 < x := by omega
theorem sol2 {g11 g12 g22 : Int} (b1 b2 : Int) (h0 : 0 ≤ g11) (z0 : g11 = 0 → g12 = 0) (h1 : 0 < g11 → 0 ≤ g11 * g22 - g12 * g12) :
    (det 2 [[g11, g12], [g12, g22]] = 0 → solved [[g11, g12, b1], [g12, g22, b2]] = none) ∧
    (det 2 [[g11, g12], [g12, g22]] ≠ 0 → ∃ rows, solved [[g11, g12, b1], [g12, g22, b2]] = some rows ∧ Good 2 rows (det 2 [[g11, g12], [g12, g22]]) [det 2 [[b1, g12], [b2, g22]], det 2 [[g11, b1], [g12, b2]]]) := by
  have hd : det 2 [[g11, g12], [g12, g22]] = g11 * g22 - g12 * g12 := det2 _ _ _ _
  rw [hd, det2, det2]
  by_cases hg : g11 = 0
  · refine ⟨fun _ => by simp [solved, solveFrom, hg], fun h => absurd (by rw [hg, z0 hg]; simp) h⟩
  have hp := pos_of h0 hg
  have hq := h1 hp
  have s0 : solved [[g11, g12, b1], [g12, g22, b2]] = solveFrom 1 1 [[g11, g12, b1], [0, g11 * g22 - g12 * g12, g11 * b2 - g12 * b1]] := by
    show (if _ then _ else _) = _
    rw [if_neg (by simpa using hg)]
    simp only [stepRows, cleared]
    simp
    grind
  generalize ha : g11 * g22 - g12 * g12 = a22 at *
  refine ⟨fun h => by rw [s0, h]; simp [solveFrom], fun h => ?_⟩
  have hpa : 0 < a22 := pos_of hq h
  have s1 : solved [[g11, g12, b1], [g12, g22, b2]] = some [[a22 * g11, 0, a22 * b1 - g12 * (g11 * b2 - g12 * b1)], [0, a22, g11 * b2 - g12 * b1]] := by
    rw [s0]
    show (if _ then _ else _) = _
    rw [if_neg (by simpa using h)]
    simp only [stepRows, cleared, solveFrom]
    simp
    grind
  refine ⟨_, s1, rfl, by simp, rfl, h, fun i hi => ?_, fun i hi => ?_⟩
  · rcases (by omega : i = 0 ∨ i = 1) with rfl | rfl
    · simp; exact Int.mul_pos hpa hp
    · simpa using hpa
  · rcases (by omega : i = 0 ∨ i = 1) with rfl | rfl
    · simp; grind
    · simp; grind
theorem sol3 {g11 g12 g13 g22 g23 g33 : Int} (b1 b2 b3 : Int) (G : Gram g11 g12 g13 g13 g22 g23 g23 g33 g33 g33) :
    (det 3 [[g11, g12, g13], [g12, g22, g23], [g13, g23, g33]] = 0 → solved [[g11, g12, g13, b1], [g12, g22, g23, b2], [g13, g23, g33, b3]] = none) ∧
    (det 3 [[g11, g12, g13], [g12, g22, g23], [g13, g23, g33]] ≠ 0 → ∃ rows, solved [[g11, g12, g13, b1], [g12, g22, g23, b2], [g13, g23, g33, b3]] = some rows ∧
      Good 3 rows (det 3 [[g11, g12, g13], [g12, g22, g23], [g13, g23, g33]]) [det 3 [[b1, g12, g13], [b2, g22, g23], [b3, g23, g33]], det 3 [[g11, b1, g13], [g12, b2, g23], [g13, b3, g33]], det 3 [[g11, g12, b1], [g12, g22, b2], [g13, g23, b3]]]) := by
  obtain ⟨h0, z0⟩ := gram_first G
  have hD : det 3 [[g11, g12, g13], [g12, g22, g23], [g13, g23, g33]] = g11*(g22*g33-g23*g23) - g12*(g12*g33-g23*g13) + g13*(g12*g23-g22*g13) := det3 _ _ _ _ _ _ _ _ _
  generalize hD' : det 3 [[g11, g12, g13], [g12, g22, g23], [g13, g23, g33]] = D at *
  generalize hX1 : det 3 [[b1, g12, g13], [b2, g22, g23], [b3, g23, g33]] = X1
  generalize hX2 : det 3 [[g11, b1, g13], [g12, b2, g23], [g13, b3, g33]] = X2
  generalize hX3 : det 3 [[g11, g12, b1], [g12, g22, b2], [g13, g23, b3]] = X3
  rw [det3] at hX1 hX2 hX3
  by_cases hg : g11 = 0
  · obtain ⟨z2, z3, _⟩ := z0 hg
    refine ⟨fun _ => by simp [solved, solveFrom, hg], fun h => absurd (by rw [hD, hg, z2, z3]; simp) h⟩
  have hp := pos_of h0 hg
  have S := gram_step G
  obtain ⟨h1, z1⟩ := sub3_first hp S
  have s0 : solved [[g11, g12, g13, b1], [g12, g22, g23, b2], [g13, g23, g33, b3]] = solveFrom 2 1 [[g11, g12, g13, b1], [0, g11 * g22 - g12 * g12, g11 * g23 - g12 * g13, g11 * b2 - g12 * b1], [0, g11 * g23 - g12 * g13, g11 * g33 - g13 * g13, g11 * b3 - g13 * b1]] := by
    show (if _ then _ else _) = _
    rw [if_neg (by simpa using hg)]
    simp only [stepRows, cleared]
    simp
    grind
  have L : ∀ r ∈ [[g11, g12, g13, b1], [g12, g22, g23, b2], [g13, g23, g33, b3]], Lin 3 [X1, X2, X3] D r := by
    intro r hr
    simp at hr
    rcases hr with rfl | rfl | rfl
    · refine ⟨rfl, ?_⟩; simp [ip]; rw [hD, ← hX1, ← hX2, ← hX3]; grind
    · refine ⟨rfl, ?_⟩; simp [ip]; rw [hD, ← hX1, ← hX2, ← hX3]; grind
    · refine ⟨rfl, ?_⟩; simp [ip]; rw [hD, ← hX1, ← hX2, ← hX3]; grind
  have Lout : ∀ out, solved [[g11, g12, g13, b1], [g12, g22, g23, b2], [g13, g23, g33, b3]] = some out → ∀ r ∈ out, Lin 3 [X1, X2, X3] D r := fun out e => lin_solve (p := 3) (X := [X1, X2, X3]) rfl 3 0 _ out (by simp) L e
  clear L hX1 hX2 hX3
  have id3 : g11 * D = (g11 * g22 - g12 * g12) * (g11 * g33 - g13 * g13) - (g11 * g23 - g12 * g13) * (g11 * g23 - g12 * g13) := by rw [hD]; grind
  have T := sub3_step S
  generalize g11 * g22 - g12 * g12 = a22 at *
  generalize g11 * g23 - g12 * g13 = a23 at *
  generalize g11 * g33 - g13 * g13 = a33 at *
  generalize g11 * b2 - g12 * b1 = c2 at *
  generalize g11 * b3 - g13 * b1 = c3 at *
  by_cases ha : a22 = 0
  · have hz : D = 0 := by
      obtain ⟨z2, _⟩ := z1 ha
      rw [ha, z2] at id3
      exact (Int.mul_eq_zero.mp (by simpa using id3)).resolve_left hg
    exact ⟨fun _ => by rw [s0, ha]; simp [solveFrom], fun h => absurd hz h⟩
  have hpa := pos_of h1 ha
  obtain ⟨h2, _, _⟩ := sub2_first (Int.mul_pos (Int.mul_pos (Int.mul_pos hp hp) hp) hpa) T
  have s1 : solveFrom 2 1 [[g11, g12, g13, b1], [0, a22, a23, c2], [0, a23, a33, c3]] = solveFrom 1 2 [[a22 * g11, 0, a22 * g13 - g12 * a23, a22 * b1 - g12 * c2], [0, a22, a23, c2], [0, 0, a22 * a33 - a23 * a23, a22 * c3 - a23 * c2]] := by
    show (if _ then _ else _) = _
    rw [if_neg (by simpa using ha)]
    simp only [stepRows, cleared]
    simp
    grind
  rw [← id3] at h2 s1
  by_cases hd : D = 0
  · exact ⟨fun _ => by rw [s0, s1, hd]; simp [solveFrom], fun h => absurd hd h⟩
  have hdp : 0 < g11 * D := pos_of h2 (Int.mul_ne_zero hg hd)
  refine ⟨fun h => absurd h hd, fun _ => ?_⟩
  generalize hb : g11 * D = b33 at *
  generalize a22 * g13 - g12 * a23 = e13 at *
  generalize a22 * b1 - g12 * c2 = e1 at *
  generalize a22 * c3 - a23 * c2 = e3 at *
  have s2 : solveFrom 1 2 [[a22 * g11, 0, e13, e1], [0, a22, a23, c2], [0, 0, b33, e3]] = some [[b33 * (a22 * g11), 0, 0, b33 * e1 - e13 * e3], [0, b33 * a22, 0, b33 * c2 - a23 * e3], [0, 0, b33, e3]] := by
    show (if _ then _ else _) = _
    rw [if_neg (by simp; omega)]
    simp only [stepRows, cleared, solveFrom]
    simp
    grind
  have e := s0.trans (s1.trans s2)
  have K := Lout _ e
  refine ⟨_, e, rfl, by simp, rfl, hd, fun i hi => ?_, fun i hi => ?_⟩
  · rcases (by omega : i = 0 ∨ i = 1 ∨ i = 2) with rfl | rfl | rfl
    · simp; exact Int.mul_pos hdp (Int.mul_pos hpa hp)
    · simp; exact Int.mul_pos hdp hpa
    · simp; exact hdp
  · have k0 := (K _ (by simp : [b33 * (a22 * g11), 0, 0, b33 * e1 - e13 * e3] ∈ _)).2
    have k1 := (K _ (by simp : [0, b33 * a22, 0, b33 * c2 - a23 * e3] ∈ _)).2
    have k2 := (K _ (by simp : [0, 0, b33, e3] ∈ _)).2
    simp [ip] at k0 k1 k2
    rcases (by omega : i = 0 ∨ i = 1 ∨ i = 2) with rfl | rfl | rfl
    · simp; rw [k0]; exact Int.mul_comm _ _
    · simp; rw [k1]; exact Int.mul_comm _ _
    · simp; rw [k2]; exact Int.mul_comm _ _
theorem sol4 {g11 g12 g13 g14 g22 g23 g24 g33 g34 g44 : Int} (b1 b2 b3 b4 : Int) (G : Gram g11 g12 g13 g14 g22 g23 g24 g33 g34 g44) :
    (det 4 [[g11, g12, g13, g14], [g12, g22, g23, g24], [g13, g23, g33, g34], [g14, g24, g34, g44]] = 0 → solved [[g11, g12, g13, g14, b1], [g12, g22, g23, g24, b2], [g13, g23, g33, g34, b3], [g14, g24, g34, g44, b4]] = none) ∧
    (det 4 [[g11, g12, g13, g14], [g12, g22, g23, g24], [g13, g23, g33, g34], [g14, g24, g34, g44]] ≠ 0 → ∃ rows, solved [[g11, g12, g13, g14, b1], [g12, g22, g23, g24, b2], [g13, g23, g33, g34, b3], [g14, g24, g34, g44, b4]] = some rows ∧
      Good 4 rows (det 4 [[g11, g12, g13, g14], [g12, g22, g23, g24], [g13, g23, g33, g34], [g14, g24, g34, g44]])
        [det 4 [[b1, g12, g13, g14], [b2, g22, g23, g24], [b3, g23, g33, g34], [b4, g24, g34, g44]], det 4 [[g11, b1, g13, g14], [g12, b2, g23, g24], [g13, b3, g33, g34], [g14, b4, g34, g44]],
         det 4 [[g11, g12, b1, g14], [g12, g22, b2, g24], [g13, g23, b3, g34], [g14, g24, b4, g44]], det 4 [[g11, g12, g13, b1], [g12, g22, g23, b2], [g13, g23, g33, b3], [g14, g24, g34, b4]]]) := by
  obtain ⟨h0, z0⟩ := gram_first G
  have hD : det 4 [[g11, g12, g13, g14], [g12, g22, g23, g24], [g13, g23, g33, g34], [g14, g24, g34, g44]] = g11 * (g22*(g33*g44-g34*g34) - g23*(g23*g44-g34*g24) + g24*(g23*g34-g33*g24)) - g12 * (g12*(g33*g44-g34*g34) - g23*(g13*g44-g34*g14) + g24*(g13*g34-g33*g14)) + g13 * (g12*(g23*g44-g34*g24) - g22*(g13*g44-g34*g14) + g24*(g13*g24-g23*g14)) - g14 * (g12*(g23*g34-g33*g24) - g22*(g13*g34-g33*g14) + g23*(g13*g24-g23*g14)) := by
    rw [det4, det3, det3, det3, det3]
  generalize hD' : det 4 [[g11, g12, g13, g14], [g12, g22, g23, g24], [g13, g23, g33, g34], [g14, g24, g34, g44]] = D at *
  generalize hX1 : det 4 [[b1, g12, g13, g14], [b2, g22, g23, g24], [b3, g23, g33, g34], [b4, g24, g34, g44]] = X1
  generalize hX2 : det 4 [[g11, b1, g13, g14], [g12, b2, g23, g24], [g13, b3, g33, g34], [g14, b4, g34, g44]] = X2
  generalize hX3 : det 4 [[g11, g12, b1, g14], [g12, g22, b2, g24], [g13, g23, b3, g34], [g14, g24, b4, g44]] = X3
  generalize hX4 : det 4 [[g11, g12, g13, b1], [g12, g22, g23, b2], [g13, g23, g33, b3], [g14, g24, g34, b4]] = X4
  rw [det4, det3, det3, det3, det3] at hX1 hX2 hX3 hX4
  by_cases hg : g11 = 0
  · obtain ⟨z2, z3, z4⟩ := z0 hg
    refine ⟨fun _ => by simp [solved, solveFrom, hg], fun h => absurd (by rw [hD, hg, z2, z3, z4]; simp) h⟩
  have hp := pos_of h0 hg
  have S := gram_step G
  obtain ⟨h1, z1⟩ := sub3_first hp S
  have s0 : solved [[g11, g12, g13, g14, b1], [g12, g22, g23, g24, b2], [g13, g23, g33, g34, b3], [g14, g24, g34, g44, b4]] = solveFrom 3 1 [[g11, g12, g13, g14, b1], [0, g11 * g22 - g12 * g12, g11 * g23 - g12 * g13, g11 * g24 - g12 * g14, g11 * b2 - g12 * b1], [0, g11 * g23 - g12 * g13, g11 * g33 - g13 * g13, g11 * g34 - g13 * g14, g11 * b3 - g13 * b1], [0, g11 * g24 - g12 * g14, g11 * g34 - g13 * g14, g11 * g44 - g14 * g14, g11 * b4 - g14 * b1]] := by
    show (if _ then _ else _) = _
    rw [if_neg (by simpa using hg)]
    simp only [stepRows, cleared]
    simp
    grind
  have L : ∀ r ∈ [[g11, g12, g13, g14, b1], [g12, g22, g23, g24, b2], [g13, g23, g33, g34, b3], [g14, g24, g34, g44, b4]], Lin 4 [X1, X2, X3, X4] D r := by
    intro r hr
    simp at hr
    rcases hr with rfl | rfl | rfl | rfl
    · refine ⟨rfl, ?_⟩; simp [ip]; rw [hD, ← hX1, ← hX2, ← hX3, ← hX4]; grind
    · refine ⟨rfl, ?_⟩; simp [ip]; rw [hD, ← hX1, ← hX2, ← hX3, ← hX4]; grind
    · refine ⟨rfl, ?_⟩; simp [ip]; rw [hD, ← hX1, ← hX2, ← hX3, ← hX4]; grind
    · refine ⟨rfl, ?_⟩; simp [ip]; rw [hD, ← hX1, ← hX2, ← hX3, ← hX4]; grind
  have Lout : ∀ out, solved [[g11, g12, g13, g14, b1], [g12, g22, g23, g24, b2], [g13, g23, g33, g34, b3], [g14, g24, g34, g44, b4]] = some out → ∀ r ∈ out, Lin 4 [X1, X2, X3, X4] D r := fun out e => lin_solve (p := 4) (X := [X1, X2, X3, X4]) rfl 4 0 _ out (by simp) L e
  clear L hX1 hX2 hX3 hX4
  have chio : g11 * g11 * D = (g11 * g22 - g12 * g12) * ((g11 * g33 - g13 * g13) * (g11 * g44 - g14 * g14) - (g11 * g34 - g13 * g14) * (g11 * g34 - g13 * g14)) - (g11 * g23 - g12 * g13) * ((g11 * g23 - g12 * g13) * (g11 * g44 - g14 * g14) - (g11 * g34 - g13 * g14) * (g11 * g24 - g12 * g14)) + (g11 * g24 - g12 * g14) * ((g11 * g23 - g12 * g13) * (g11 * g34 - g13 * g14) - (g11 * g33 - g13 * g13) * (g11 * g24 - g12 * g14)) := by rw [hD]; grind
  have T := sub3_step S
  clear hD hD' S G
  generalize g11 * g22 - g12 * g12 = a22 at *
  generalize g11 * g23 - g12 * g13 = a23 at *
  generalize g11 * g24 - g12 * g14 = a24 at *
  generalize g11 * g33 - g13 * g13 = a33 at *
  generalize g11 * g34 - g13 * g14 = a34 at *
  generalize g11 * g44 - g14 * g14 = a44 at *
  generalize g11 * b2 - g12 * b1 = c2 at *
  generalize g11 * b3 - g13 * b1 = c3 at *
  generalize g11 * b4 - g14 * b1 = c4 at *
  have hgg : g11 * g11 ≠ 0 := Int.mul_ne_zero hg hg
  by_cases ha : a22 = 0
  · have hz : D = 0 := by
      obtain ⟨z2, z3⟩ := z1 ha
      rw [ha, z2, z3] at chio
      exact (Int.mul_eq_zero.mp (by simpa using chio)).resolve_left hgg
    exact ⟨fun _ => by rw [s0, ha]; simp [solveFrom], fun h => absurd hz h⟩
  have hpa := pos_of h1 ha
  obtain ⟨h2, z2, h3⟩ := sub2_first (Int.mul_pos (Int.mul_pos (Int.mul_pos hp hp) hp) hpa) T
  have last : (a22 * a33 - a23 * a23) * (a22 * a44 - a24 * a24) - (a22 * a34 - a23 * a24) * (a22 * a34 - a23 * a24) = a22 * (g11 * g11 * D) := by rw [chio]; grind
  have s1 : solveFrom 3 1 [[g11, g12, g13, g14, b1], [0, a22, a23, a24, c2], [0, a23, a33, a34, c3], [0, a24, a34, a44, c4]] = solveFrom 2 2 [[a22 * g11, 0, a22 * g13 - g12 * a23, a22 * g14 - g12 * a24, a22 * b1 - g12 * c2], [0, a22, a23, a24, c2], [0, 0, a22 * a33 - a23 * a23, a22 * a34 - a23 * a24, a22 * c3 - a23 * c2], [0, 0, a22 * a34 - a23 * a24, a22 * a44 - a24 * a24, a22 * c4 - a24 * c2]] := by
    show (if _ then _ else _) = _
    rw [if_neg (by simpa using ha)]
    simp only [stepRows, cleared]
    simp
    grind
  clear chio
  generalize a22 * a33 - a23 * a23 = b33 at *
  generalize a22 * a34 - a23 * a24 = b34 at *
  generalize a22 * a44 - a24 * a24 = b44 at *
  generalize a22 * g13 - g12 * a23 = e13 at *
  generalize a22 * g14 - g12 * a24 = e14 at *
  generalize a22 * b1 - g12 * c2 = e1 at *
  generalize a22 * c3 - a23 * c2 = e3 at *
  generalize a22 * c4 - a24 * c2 = e4 at *
  by_cases hb : b33 = 0
  · have hz : D = 0 := by
      rw [hb, z2 hb] at last
      have q : a22 * (g11 * g11 * D) = 0 := by rw [← last]; simp
      exact (Int.mul_eq_zero.mp ((Int.mul_eq_zero.mp q).resolve_left ha)).resolve_left hgg
    exact ⟨fun _ => by rw [s0, s1, hb]; simp [solveFrom], fun h => absurd hz h⟩
  have hpb := pos_of h2 hb
  have s2 : solveFrom 2 2 [[a22 * g11, 0, e13, e14, e1], [0, a22, a23, a24, c2], [0, 0, b33, b34, e3], [0, 0, b34, b44, e4]] = solveFrom 1 3 [[b33 * (a22 * g11), 0, 0, b33 * e14 - e13 * b34, b33 * e1 - e13 * e3], [0, b33 * a22, 0, b33 * a24 - a23 * b34, b33 * c2 - a23 * e3], [0, 0, b33, b34, e3], [0, 0, 0, b33 * b44 - b34 * b34, b33 * e4 - b34 * e3]] := by
    show (if _ then _ else _) = _
    rw [if_neg (by simpa using hb)]
    simp only [stepRows, cleared]
    simp
    grind
  rw [last] at h3 s2
  by_cases hd : D = 0
  · exact ⟨fun _ => by rw [s0, s1, s2, hd]; simp [solveFrom], fun h => absurd hd h⟩
  refine ⟨fun h => absurd h hd, fun _ => ?_⟩
  have hdp : 0 < a22 * (g11 * g11 * D) := pos_of h3 (Int.mul_ne_zero ha (Int.mul_ne_zero hgg hd))
  generalize a22 * (g11 * g11 * D) = c44 at *
  generalize b33 * e14 - e13 * b34 = f14 at *
  generalize b33 * e1 - e13 * e3 = f1 at *
  generalize b33 * a24 - a23 * b34 = f24 at *
  generalize b33 * c2 - a23 * e3 = f2 at *
  generalize b33 * e4 - b34 * e3 = f4 at *
  have s3 : solveFrom 1 3 [[b33 * (a22 * g11), 0, 0, f14, f1], [0, b33 * a22, 0, f24, f2], [0, 0, b33, b34, e3], [0, 0, 0, c44, f4]] = some [[c44 * (b33 * (a22 * g11)), 0, 0, 0, c44 * f1 - f14 * f4], [0, c44 * (b33 * a22), 0, 0, c44 * f2 - f24 * f4], [0, 0, c44 * b33, 0, c44 * e3 - b34 * f4], [0, 0, 0, c44, f4]] := by
    show (if _ then _ else _) = _
    rw [if_neg (by simp; omega)]
    simp only [stepRows, cleared, solveFrom]
    simp
    grind
  have e := s0.trans (s1.trans (s2.trans s3))
  have K := Lout _ e
  refine ⟨_, e, rfl, by simp, rfl, hd, fun i hi => ?_, fun i hi => ?_⟩
  · rcases (by omega : i = 0 ∨ i = 1 ∨ i = 2 ∨ i = 3) with rfl | rfl | rfl | rfl
    · simp; exact Int.mul_pos hdp (Int.mul_pos hpb (Int.mul_pos hpa hp))
    · simp; exact Int.mul_pos hdp (Int.mul_pos hpb hpa)
    · simp; exact Int.mul_pos hdp hpb
    · simp; exact hdp
  · have k0 := (K _ (by simp : [c44 * (b33 * (a22 * g11)), 0, 0, 0, c44 * f1 - f14 * f4] ∈ _)).2
    have k1 := (K _ (by simp : [0, c44 * (b33 * a22), 0, 0, c44 * f2 - f24 * f4] ∈ _)).2
    have k2 := (K _ (by simp : [0, 0, c44 * b33, 0, c44 * e3 - b34 * f4] ∈ _)).2
    have k3 := (K _ (by simp : [0, 0, 0, c44, f4] ∈ _)).2
    simp [ip] at k0 k1 k2 k3
    rcases (by omega : i = 0 ∨ i = 1 ∨ i = 2 ∨ i = 3) with rfl | rfl | rfl | rfl
    · simp; rw [k0]; exact Int.mul_comm _ _
    · simp; rw [k1]; exact Int.mul_comm _ _
    · simp; rw [k2]; exact Int.mul_comm _ _
    · simp; rw [k3]; exact Int.mul_comm _ _
end Wg
namespace Wg
open Sound
theorem foldl_add (l : List Int) : ∀ a : Int, l.foldl (fun (a b : Int) => a + b) a = a + l.foldl (fun (a b : Int) => a + b) 0 := by
  induction l with
  | nil => intro a; simp
  | cons x l ih => intro a; simp only [List.foldl_cons]; rw [ih (a + x), ih (0 + x)]; omega
theorem sumOf_cons (x : Int) (l : List Int) : sumOf (x :: l) = x + sumOf l := by
  unfold sumOf; rw [List.foldl_cons, foldl_add]; omega
theorem sumOf_sum : ∀ l : List Int, sumOf l = l.sum
  | [] => rfl
  | x :: l => by rw [sumOf_cons, sumOf_sum l, List.sum_cons]
theorem sumOf_zip : ∀ l m : List Int, sumOf (List.zipWith (fun (a b : Int) => a * b) l m) = ip l m
  | [], _ => by simp [sumOf, ip]
  | _ :: _, [] => by simp [sumOf, ip]
  | a :: l, b :: m => by rw [List.zipWith_cons_cons, sumOf_cons, sumOf_zip l m]; rfl
def lagv (y : List Int) (p i : Nat) : List Int := (y.drop (p - i)).take (y.length - p)
theorem moment_ip (y : List Int) (p i j : Nat) : moment y p i j = ip (lagv y p i) (lagv y p j) := sumOf_zip _ _
theorem lagv_len {y : List Int} {p i : Nat} (hi : i ≤ p) (hp : p ≤ y.length) : (lagv y p i).length = y.length - p := by
  simp only [lagv, List.length_take, List.length_drop]; omega
def normalRows (y : List Int) (p : Nat) : List (List Int) := (List.range p).map fun i => ((List.range p).map fun j => moment y p (i + 1) (j + 1)) ++ [moment y p (i + 1) 0]
theorem exact_solved {y : List Int} {p : Nat} (h1 : 1 ≤ p) (h4 : p ≤ 4) (hp : p ≤ y.length) :
    (exact y p = none ∧ solved (normalRows y p) = none) ∨ ∃ d ns rows, exact y p = some (d, ns) ∧ solved (normalRows y p) = some rows ∧ Good p rows d ns := by
  have sy : ∀ i j, moment y p i j = moment y p j i := fun i j => by rw [moment_ip, moment_ip, ip_comm]
  have L : ∀ i, i ≤ p → (lagv y p i).length = y.length - p := fun i hi => lagv_len hi hp
  rcases (by omega : p = 1 ∨ p = 2 ∨ p = 3 ∨ p = 4) with rfl | rfl | rfl | rfl
  · have S := sol1 (moment y 1 1 1) (moment y 1 1 0) (by rw [moment_ip]; exact ip_nonneg _)
    simp only [exact, normalRows, List.range_succ, List.range_zero, List.nil_append, List.map_cons, List.map_nil, List.cons_append, List.zipWith_cons_cons, List.zipWith_nil_left, List.set_cons_zero, Nat.zero_add] at *
    rw [sy 0 1]
    by_cases hd : det 1 [[moment y 1 1 1]] = 0
    · exact .inl ⟨by rw [if_pos hd], S.1 hd⟩
    · obtain ⟨rows, e, g⟩ := S.2 hd
      exact .inr ⟨_, _, rows, by rw [if_neg hd], e, g⟩
  · have S := sol2 (g11 := moment y 2 1 1) (g12 := moment y 2 1 2) (g22 := moment y 2 2 2) (moment y 2 1 0) (moment y 2 2 0) (by rw [moment_ip]; exact ip_nonneg _) (fun h => by rw [moment_ip] at h ⊢; exact ip_zero h) (fun h => by
      have G : Gram (moment y 2 1 1) (moment y 2 1 2) (moment y 2 1 2) (moment y 2 1 2) (moment y 2 2 2) (moment y 2 2 2) (moment y 2 2 2) (moment y 2 2 2) (moment y 2 2 2) (moment y 2 2 2) :=
        ⟨lagv y 2 1, lagv y 2 2, lagv y 2 2, lagv y 2 2, by rw [L 1 (by omega), L 2 (by omega)], by rw [L 1 (by omega), L 2 (by omega)], by rw [L 1 (by omega), L 2 (by omega)], moment_ip _ _ _ _, moment_ip _ _ _ _, moment_ip _ _ _ _, moment_ip _ _ _ _, moment_ip _ _ _ _, moment_ip _ _ _ _, moment_ip _ _ _ _, moment_ip _ _ _ _, moment_ip _ _ _ _, moment_ip _ _ _ _⟩
      exact (sub3_first h (gram_step G)).1)
    simp only [exact, normalRows, List.range_succ, List.range_zero, List.nil_append, List.map_cons, List.map_nil, List.cons_append, List.zipWith_cons_cons, List.zipWith_nil_left, List.set_cons_zero, List.set_cons_succ, Nat.zero_add, Nat.reduceAdd] at *
    rw [sy 0 1, sy 0 2, sy 2 1]
    by_cases hd : det 2 [[moment y 2 1 1, moment y 2 1 2], [moment y 2 1 2, moment y 2 2 2]] = 0
    · exact .inl ⟨by rw [if_pos hd], S.1 hd⟩
    · obtain ⟨rows, e, g⟩ := S.2 hd
      exact .inr ⟨_, _, rows, by rw [if_neg hd], e, g⟩
  · have G : Gram (moment y 3 1 1) (moment y 3 1 2) (moment y 3 1 3) (moment y 3 1 3) (moment y 3 2 2) (moment y 3 2 3) (moment y 3 2 3) (moment y 3 3 3) (moment y 3 3 3) (moment y 3 3 3) :=
        ⟨lagv y 3 1, lagv y 3 2, lagv y 3 3, lagv y 3 3, by rw [L 1 (by omega), L 2 (by omega)], by rw [L 1 (by omega), L 3 (by omega)], by rw [L 1 (by omega), L 3 (by omega)], moment_ip _ _ _ _, moment_ip _ _ _ _, moment_ip _ _ _ _, moment_ip _ _ _ _, moment_ip _ _ _ _, moment_ip _ _ _ _, moment_ip _ _ _ _, moment_ip _ _ _ _, moment_ip _ _ _ _, moment_ip _ _ _ _⟩
    have S := sol3 (moment y 3 1 0) (moment y 3 2 0) (moment y 3 3 0) G
    simp only [exact, normalRows, List.range_succ, List.range_zero, List.nil_append, List.map_cons, List.map_nil, List.cons_append, List.zipWith_cons_cons, List.zipWith_nil_left, List.set_cons_zero, List.set_cons_succ, Nat.zero_add, Nat.reduceAdd] at *
    rw [sy 0 1, sy 0 2, sy 0 3, sy 2 1, sy 3 1, sy 3 2]
    by_cases hd : det 3 [[moment y 3 1 1, moment y 3 1 2, moment y 3 1 3], [moment y 3 1 2, moment y 3 2 2, moment y 3 2 3], [moment y 3 1 3, moment y 3 2 3, moment y 3 3 3]] = 0
    · exact .inl ⟨by rw [if_pos hd], S.1 hd⟩
    · obtain ⟨rows, e, g⟩ := S.2 hd
      exact .inr ⟨_, _, rows, by rw [if_neg hd], e, g⟩
  · have G : Gram (moment y 4 1 1) (moment y 4 1 2) (moment y 4 1 3) (moment y 4 1 4) (moment y 4 2 2) (moment y 4 2 3) (moment y 4 2 4) (moment y 4 3 3) (moment y 4 3 4) (moment y 4 4 4) :=
        ⟨lagv y 4 1, lagv y 4 2, lagv y 4 3, lagv y 4 4, by rw [L 1 (by omega), L 2 (by omega)], by rw [L 1 (by omega), L 3 (by omega)], by rw [L 1 (by omega), L 4 (by omega)], moment_ip _ _ _ _, moment_ip _ _ _ _, moment_ip _ _ _ _, moment_ip _ _ _ _, moment_ip _ _ _ _, moment_ip _ _ _ _, moment_ip _ _ _ _, moment_ip _ _ _ _, moment_ip _ _ _ _, moment_ip _ _ _ _⟩
    have S := sol4 (moment y 4 1 0) (moment y 4 2 0) (moment y 4 3 0) (moment y 4 4 0) G
    simp only [exact, normalRows, List.range_succ, List.range_zero, List.nil_append, List.map_cons, List.map_nil, List.cons_append, List.zipWith_cons_cons, List.zipWith_nil_left, List.set_cons_zero, List.set_cons_succ, Nat.zero_add, Nat.reduceAdd] at *
    rw [sy 0 1, sy 0 2, sy 0 3, sy 0 4, sy 2 1, sy 3 1, sy 3 2, sy 4 1, sy 4 2, sy 4 3]
    by_cases hd : det 4 [[moment y 4 1 1, moment y 4 1 2, moment y 4 1 3, moment y 4 1 4], [moment y 4 1 2, moment y 4 2 2, moment y 4 2 3, moment y 4 2 4], [moment y 4 1 3, moment y 4 2 3, moment y 4 3 3, moment y 4 3 4], [moment y 4 1 4, moment y 4 2 4, moment y 4 3 4, moment y 4 4 4]] = 0
    · exact .inl ⟨by rw [if_pos hd], S.1 hd⟩
    · obtain ⟨rows, e, g⟩ := S.2 hd
      exact .inr ⟨_, _, rows, by rw [if_neg hd], e, g⟩
def absP (i : Int) : Int := if i < 0 then -i else i
def nearestP (a b : Int) : Int := let q := (2 * absP a + b).fdiv (2 * b)
  if 0 ≤ a then q else -q
theorem absP_nat (i : Int) : absP i = (i.natAbs : Int) := by unfold absP; omega
theorem nearest_same {a b a' b' : Int} (hb : 0 < b) (hb' : b' ≠ 0) (h : a * b' = b * a') : nearestP a b = nearest a' b' := by
  have hq : (2 * absP a + b).fdiv (2 * b) = (((2 * a'.natAbs + b'.natAbs) / (2 * b'.natAbs) : Nat) : Int) := by
    rw [absP_nat]
    have e1 : (2 * (a.natAbs : Int) + b).fdiv (2 * b) = (((2 * a.natAbs + b.natAbs) / (2 * b.natAbs) : Nat) : Int) := by
      have hbn : b = (b.natAbs : Int) := by omega
      rw [Int.fdiv_eq_ediv_of_nonneg _ (by omega), hbn]
      simp
    rw [e1]
    have hn : a.natAbs * b'.natAbs = b.natAbs * a'.natAbs := by rw [← Int.natAbs_mul, ← Int.natAbs_mul, h]
    have p1 : 0 < b.natAbs := by omega
    have p2 : 0 < b'.natAbs := by omega
    congr 1
    rw [← Nat.mul_div_mul_left (2 * a.natAbs + b.natAbs) (2 * b.natAbs) p2, ← Nat.mul_div_mul_left (2 * a'.natAbs + b'.natAbs) (2 * b'.natAbs) p1]
    have e2 : b'.natAbs * (2 * a.natAbs + b.natAbs) = b.natAbs * (2 * a'.natAbs + b'.natAbs) := by grind
    have e3 : b'.natAbs * (2 * b.natAbs) = b.natAbs * (2 * b'.natAbs) := by grind
    rw [e2, e3]
  unfold nearestP nearest
  simp only [hq]
  generalize hqq : (((2 * a'.natAbs + b'.natAbs) / (2 * b'.natAbs) : Nat) : Int) = q
  by_cases ha : a = 0
  · have ha' : a' = 0 := by
      rw [ha, Int.zero_mul] at h
      exact (Int.mul_eq_zero.mp h.symm).resolve_left (by omega)
    have q0 : q = 0 := by
      rw [← hqq, ha']
      have : (2 * (0 : Int).natAbs + b'.natAbs) / (2 * b'.natAbs) = 0 := Nat.div_eq_of_lt (by simp; omega)
      rw [this]; rfl
    rw [ha, q0]; simp
  · have sgn : (decide (a' < 0) != decide (b' < 0)) = decide (a < 0) := by
      rcases Int.lt_or_lt_of_ne ha with hn | hp <;> rcases Int.lt_or_lt_of_ne hb' with bn | bp
      · have : 0 < a * b' := Int.mul_pos_of_neg_of_neg hn bn
        have : 0 < a' := Int.lt_of_not_ge fun q => by have := Int.mul_nonpos_of_nonneg_of_nonpos (Int.le_of_lt hb) q; omega
        simp [bn, hn]; omega
      · have : a * b' < 0 := Int.mul_neg_of_neg_of_pos hn bp
        have : a' < 0 := Int.lt_of_not_ge fun q => by have := Int.mul_nonneg (Int.le_of_lt hb) q; omega
        simp [hn, this]; omega
      · have : a * b' < 0 := Int.mul_neg_of_pos_of_neg hp bn
        have : a' < 0 := Int.lt_of_not_ge fun q => by have := Int.mul_nonneg (Int.le_of_lt hb) q; omega
        simp [bn, this]; omega
      · have : 0 < a * b' := Int.mul_pos hp bp
        have : 0 < a' := Int.lt_of_not_ge fun q => by have := Int.mul_nonpos_of_nonneg_of_nonpos (Int.le_of_lt hb) q; omega
        have h1 : ¬ a' < 0 := by omega
        have h2 : ¬ b' < 0 := by omega
        have h3 : ¬ a < 0 := by omega
        simp [h1, h2, h3]
    rw [sgn]
    by_cases hn : a < 0
    · rw [if_neg (by omega), if_pos (by simpa using hn)]
    · rw [if_pos (by omega), if_neg (by simpa using hn)]
def facAt (rows : List (List Int)) (p h : Nat) : List Int := rows.zipIdx.map fun x => nearestP (x.1.getD p 0 * 2 ^ h) ((rows.getD x.2 []).getD x.2 0)
def linGuess (y : List Int) (p : Nat) : Option (Nat × List Int) := match solved (normalRows y p) with
  | none => none
  | some rows => ((List.range 16).reverse.find? fun h => (facAt rows p h).all fun f => decide (-2048 ≤ f) && decide (f ≤ 2047)).map fun h => (h, facAt rows p h)
theorem facAt_good {p : Nat} {rows : List (List Int)} {d : Int} {ns : List Int} (g : Good p rows d ns) (h : Nat) : facAt rows p h = ns.map fun x => nearest (x * 2 ^ h) d := by
  apply List.ext_getElem
  · simp [facAt, g.len, g.nlen]
  · intro i h1 h2
    have hi : i < p := by simpa [facAt, g.len] using h1
    have hr : i < rows.length := by rw [g.len]; exact hi
    have hn : i < ns.length := by rw [g.nlen]; exact hi
    have e := g.eq i hi
    have ps := g.pos i hi
    simp only [facAt, List.getElem_map, List.getElem_zipIdx, Nat.zero_add]
    have er : rows.getD i [] = rows[i] := by rw [List.getD_eq_getElem?_getD, List.getElem?_eq_getElem hr]; rfl
    have en : ns.getD i 0 = ns[i] := by rw [List.getD_eq_getElem?_getD, List.getElem?_eq_getElem hn]; rfl
    rw [er] at e ps
    rw [en] at e
    simp only [er]
    exact nearest_same ps g.dne (by rw [Int.mul_right_comm, e, Int.mul_assoc])
theorem linGuess_eq {y : List Int} {p : Nat} (h1 : 1 ≤ p) (h4 : p ≤ 4) (hp : p ≤ y.length) : linGuess y p = factors y p := by
  rcases exact_solved h1 h4 hp with ⟨e1, e2⟩ | ⟨d, ns, rows, e1, e2, g⟩
  · simp only [linGuess, factors, e1, e2]
  · simp only [linGuess, factors, e1, e2, facAt_good g, List.all_map]
    rfl
end Wg
namespace Wg
open PySem
theorem and_lo (n m : Nat) : (n &&& m) % 2 = 0 ↔ n % 2 = 0 ∨ m % 2 = 0 := by
  have h := congrArg (· = true) (Nat.testBit_and n m 0)
  simp only [Nat.testBit_zero, Bool.and_eq_true, decide_eq_true_eq, eq_iff_iff] at h
  omega
theorem or_lo (n m : Nat) : (n ||| m) % 2 = 0 ↔ n % 2 = 0 ∧ m % 2 = 0 := by
  have h := congrArg (· = true) (Nat.testBit_or n m 0)
  simp only [Nat.testBit_zero, Bool.or_eq_true, decide_eq_true_eq, eq_iff_iff] at h
  omega
theorem and_hi (n m : Nat) : (n &&& m) / 2 = n / 2 &&& m / 2 := by
  apply Nat.eq_of_testBit_eq; intro i
  rw [Nat.testBit_and, Nat.testBit_div_two, Nat.testBit_div_two, Nat.testBit_div_two, Nat.testBit_and]
theorem or_hi (n m : Nat) : (n ||| m) / 2 = n / 2 ||| m / 2 := by
  apply Nat.eq_of_testBit_eq; intro i
  rw [Nat.testBit_or, Nat.testBit_div_two, Nat.testBit_div_two, Nat.testBit_div_two, Nat.testBit_or]
theorem or_pp {x y : Int} (hx : 0 ≤ x) (hy : 0 ≤ y) : Builtin.bitOr x y = ((x.toNat ||| y.toNat : Nat) : Int) := by
  unfold Builtin.bitOr Builtin.bitAnd Builtin.bitNot
  have h1 : decide (0 ≤ -x - 1) = false := by simp; omega
  have h2 : decide (0 ≤ -y - 1) = false := by simp; omega
  simp only [h1, h2]
  have e1 : (-(-x - 1) - 1).toNat = x.toNat := by congr 1; omega
  have e2 : (-(-y - 1) - 1).toNat = y.toNat := by congr 1; omega
  rw [e1, e2]; omega
theorem or_pn {x y : Int} (hx : 0 ≤ x) (hy : y < 0) : Builtin.bitOr x y = -((-y - 1) - (((-y - 1).toNat &&& x.toNat : Nat) : Int)) - 1 := by
  unfold Builtin.bitOr Builtin.bitAnd Builtin.bitNot
  have h1 : decide (0 ≤ -x - 1) = false := by simp; omega
  have h2 : decide (0 ≤ -y - 1) = true := by simp; omega
  simp only [h1, h2]
  have e1 : (-(-x - 1) - 1).toNat = x.toNat := by congr 1; omega
  rw [e1]
theorem or_np {x y : Int} (hx : x < 0) (hy : 0 ≤ y) : Builtin.bitOr x y = -((-x - 1) - (((-x - 1).toNat &&& y.toNat : Nat) : Int)) - 1 := by
  unfold Builtin.bitOr Builtin.bitAnd Builtin.bitNot
  have h1 : decide (0 ≤ -x - 1) = true := by simp; omega
  have h2 : decide (0 ≤ -y - 1) = false := by simp; omega
  simp only [h1, h2]
  have e1 : (-(-y - 1) - 1).toNat = y.toNat := by congr 1; omega
  rw [e1]
theorem or_nn {x y : Int} (hx : x < 0) (hy : y < 0) : Builtin.bitOr x y = -(((-x - 1).toNat &&& (-y - 1).toNat : Nat) : Int) - 1 := by
  unfold Builtin.bitOr Builtin.bitAnd Builtin.bitNot
  have h1 : decide (0 ≤ -x - 1) = true := by simp; omega
  have h2 : decide (0 ≤ -y - 1) = true := by simp; omega
  simp only [h1, h2]
theorem hN (a : Nat) : (-(a : Int) - 1) / 2 = -((a / 2 : Nat) : Int) - 1 := by omega
theorem tN (a : Nat) : (-(-(a : Int) - 1) - 1).toNat = a := by omega
theorem pN (a : Nat) : (-(a : Int) - 1) % 2 = 0 ↔ ¬a % 2 = 0 := by omega
theorem pP (a : Nat) : (a : Int) % 2 = 0 ↔ a % 2 = 0 := by omega
theorem or_nnN (a b : Nat) : Builtin.bitOr (-(a : Int) - 1) (-(b : Int) - 1) = -((a &&& b : Nat) : Int) - 1 := by
  rw [or_nn (by omega) (by omega), tN, tN]
theorem or_npN (a b : Nat) : Builtin.bitOr (-(a : Int) - 1) (b : Int) = -((a - (a &&& b) : Nat) : Int) - 1 := by
  rw [or_np (by omega) (by omega), tN, Int.toNat_natCast]
  have c : (a &&& b) ≤ a := Nat.and_le_left
  omega
theorem or_pnN (a b : Nat) : Builtin.bitOr (b : Int) (-(a : Int) - 1) = -((a - (a &&& b) : Nat) : Int) - 1 := by
  rw [or_pn (by omega) (by omega), tN, Int.toNat_natCast]
  have c : (a &&& b) ≤ a := Nat.and_le_left
  omega
theorem or_ppN (a b : Nat) : Builtin.bitOr (a : Int) (b : Int) = ((a ||| b : Nat) : Int) := by
  rw [or_pp (by omega) (by omega), Int.toNat_natCast, Int.toNat_natCast]
theorem sub_half (a b : Nat) : (a - (a &&& b)) / 2 = a / 2 - (a / 2 &&& b / 2) ∧ ((a - (a &&& b)) % 2 = 0 ↔ ¬(¬a % 2 = 0 ∧ b % 2 = 0)) := by
  have l := and_lo a b
  have c : (a &&& b) ≤ a := Nat.and_le_left
  rw [← and_hi]
  generalize (a &&& b) = d at *
  omega
theorem or_half (x y : Int) : Builtin.bitOr x y / 2 = Builtin.bitOr (x / 2) (y / 2) ∧ (Builtin.bitOr x y % 2 = 0 ↔ x % 2 = 0 ∧ y % 2 = 0) := by
  have gt : ∀ z : Int, (∃ a : Nat, z = a) ∨ ∃ a : Nat, z = -(a : Int) - 1 := by
    intro z
    rcases Int.lt_or_le z 0 with h | h
    · exact Or.inr ⟨(-z - 1).toNat, by omega⟩
    · exact Or.inl ⟨z.toNat, (Int.toNat_of_nonneg h).symm⟩
  rcases gt x with ⟨a, rfl⟩ | ⟨a, rfl⟩ <;> rcases gt y with ⟨b, rfl⟩ | ⟨b, rfl⟩
  · rw [or_ppN, pP, pP, pP, or_lo]
    exact ⟨(congrArg Nat.cast (or_hi a b)).trans (or_ppN (a / 2) (b / 2)).symm, Iff.rfl⟩
  · rw [or_pnN, hN, hN, pN, pP, pN, (sub_half b a).1, (sub_half b a).2]
    exact ⟨(or_pnN (b / 2) (a / 2)).symm, by rw [Classical.not_not, And.comm]⟩
  · rw [or_npN, hN, hN, pN, pN, pP, (sub_half a b).1, (sub_half a b).2]
    exact ⟨(or_npN (a / 2) (b / 2)).symm, by rw [Classical.not_not]⟩
  · rw [or_nnN, hN, hN, hN, or_nnN, pN, pN, pN, ← and_hi, and_lo, not_or]
    exact ⟨rfl, Iff.rfl⟩
theorem dvd_half (z : Nat) (x : Int) : x % 2 ^ (z + 1) = 0 ↔ x % 2 = 0 ∧ x / 2 % 2 ^ z = 0 := by
  have e : (2 : Int) ^ (z + 1) = 2 * 2 ^ z := by rw [Int.pow_succ]; exact Int.mul_comm _ _
  rw [e]
  constructor
  · intro h
    obtain ⟨k, hk⟩ := Int.dvd_of_emod_eq_zero h
    have e1 : x = 2 * (2 ^ z * k) := by rw [hk, Int.mul_assoc]
    constructor
    · omega
    · have e2 : x / 2 = 2 ^ z * k := by omega
      rw [e2]; exact Int.mul_emod_right _ _
  · rintro ⟨h1, h2⟩
    obtain ⟨k, hk⟩ := Int.dvd_of_emod_eq_zero h2
    have e1 : x = 2 * 2 ^ z * k := by rw [Int.mul_assoc, ← hk]; omega
    rw [e1]; exact Int.mul_emod_right _ _
theorem dvd_or : ∀ (z : Nat) (x y : Int), Builtin.bitOr x y % 2 ^ z = 0 ↔ x % 2 ^ z = 0 ∧ y % 2 ^ z = 0
  | 0, x, y => by simp [Int.emod_one]
  | z + 1, x, y => by
    obtain ⟨h1, h2⟩ := or_half x y
    rw [dvd_half, dvd_half, dvd_half, h1, h2, dvd_or z]
    constructor
    · rintro ⟨⟨a, b⟩, c, d⟩; exact ⟨⟨a, c⟩, b, d⟩
    · rintro ⟨⟨a, c⟩, b, d⟩; exact ⟨⟨a, b⟩, c, d⟩
def together (l : List Int) : Int := l.foldl Builtin.bitOr 0
theorem dvd_fold (z : Nat) : ∀ (l : List Int) (a : Int), l.foldl Builtin.bitOr a % 2 ^ z = 0 ↔ a % 2 ^ z = 0 ∧ ∀ x ∈ l, x % 2 ^ z = 0
  | [], a => by simp
  | x :: l, a => by
    rw [List.foldl_cons, dvd_fold z l, dvd_or]
    simp [and_assoc]
theorem dvd_together (z : Nat) (l : List Int) : together l % 2 ^ z = 0 ↔ ∀ x ∈ l, x % 2 ^ z = 0 := by
  unfold together; rw [dvd_fold]; simp
theorem low_nat : ∀ (b n : Nat), n ≤ b → 0 < n → ∃ k, n - (n &&& (n - 1)) = 2 ^ k ∧ n % 2 ^ k = 0 ∧ n % 2 ^ (k + 1) ≠ 0
  | 0, n, h, p => by omega
  | b + 1, n, h, p => by
    have a := and_lo n (n - 1)
    have c := and_hi n (n - 1)
    rcases Nat.mod_two_eq_zero_or_one n with e | e
    · obtain ⟨k, h1, h2, h3⟩ := low_nat b (n / 2) (by omega) (by omega)
      have e1 : (n - 1) / 2 = n / 2 - 1 := by omega
      rw [e1] at c
      have d : (n / 2 &&& (n / 2 - 1)) ≤ n / 2 := Nat.and_le_left
      refine ⟨k + 1, ?_, ?_, ?_⟩
      · rw [Nat.pow_succ, ← h1]; omega
      · have := Nat.mod_mul (x := n) (a := 2) (b := 2 ^ k)
        rw [Nat.pow_succ, Nat.mul_comm, this, e, h2]
      · have := Nat.mod_mul (x := n) (a := 2) (b := 2 ^ (k + 1))
        rw [Nat.pow_succ, Nat.mul_comm, this, e]
        omega
    · refine ⟨0, ?_, by simp [Nat.mod_one], by simp; omega⟩
      have e1 : (n - 1) / 2 = n / 2 := by omega
      rw [e1, Nat.and_self] at c
      simp; omega
theorem and_neg {t : Int} (h : t ≠ 0) : Builtin.bitAnd t (-t) = ((t.natAbs - (t.natAbs &&& (t.natAbs - 1)) : Nat) : Int) := by
  have d : (t.natAbs &&& (t.natAbs - 1)) ≤ t.natAbs := Nat.and_le_left
  rcases Int.lt_or_lt_of_ne h with hn | hp
  · unfold Builtin.bitAnd Builtin.bitNot
    have h1 : decide (0 ≤ t) = false := by simp; omega
    have h2 : decide (0 ≤ -t) = true := by simp; omega
    simp only [h1, h2]
    have e1 : (-t).toNat = t.natAbs := by omega
    have e2 : (-t - 1).toNat = t.natAbs - 1 := by omega
    rw [e1, e2]; omega
  · unfold Builtin.bitAnd Builtin.bitNot
    have h1 : decide (0 ≤ t) = true := by simp; omega
    have h2 : decide (0 ≤ -t) = false := by simp; omega
    simp only [h1, h2]
    have e1 : t.toNat = t.natAbs := by omega
    have e2 : (- -t - 1).toNat = t.natAbs - 1 := by omega
    rw [e1, e2]; omega
def maxP (i j : Int) : Int := if j > i then j else i
def zerosP (l : List Int) : Int := maxP ((Builtin.Int.intBits (Builtin.bitAnd (together l) (-(together l))) : Int) - 1) 0
theorem intBits_pow (k : Nat) : Builtin.Int.intBits ((2 ^ k : Nat) : Int) = k + 1 := by
  unfold Builtin.Int.intBits
  have h : 0 < 2 ^ k := Nat.two_pow_pos k
  have h0 : (((2 ^ k : Nat) : Int) == 0) = false := by simp; exact_mod_cast (by omega : (2 : Nat) ^ k ≠ 0)
  rw [h0]
  simp [Int.natAbs_natCast, Nat.log2_two_pow]
theorem natAbs_mod (z : Nat) (t : Int) : t.natAbs % 2 ^ z = 0 ↔ t % 2 ^ z = 0 := by
  rw [← Nat.dvd_iff_mod_eq_zero, ← Int.dvd_iff_emod_eq_zero]
  have : ((2 : Int) ^ z) = ((2 ^ z : Nat) : Int) := by simp
  rw [this]
  rw [← Int.natAbs_dvd_natAbs, Int.natAbs_natCast]
theorem find_rev {p : Nat → Bool} {k : Nat} (hk : p k = true) (hn : ∀ z, k < z → p z = false) : ∀ w : Nat, k < w → (List.range w).reverse.find? p = some k
  | 0, h => by omega
  | w + 1, h => by
    rw [List.range_succ, List.reverse_append, List.reverse_singleton, List.singleton_append, List.find?_cons]
    by_cases e : w = k
    · subst e; rw [hk]
    · rw [hn w (by omega)]
      exact find_rev hk hn w (by omega)
theorem mod_le {x : Int} {z k : Nat} (h : z ≤ k) (hk : x % 2 ^ k = 0) : x % 2 ^ z = 0 := by
  have d1 : (2 : Int) ^ z ∣ 2 ^ k := ⟨2 ^ (k - z), by rw [← Int.pow_add]; congr 1; omega⟩
  exact Int.emod_eq_zero_of_dvd (Int.dvd_trans d1 (Int.dvd_of_emod_eq_zero hk))
theorem zeros_eq {w : Nat} {l : List Int} (hw : 1 ≤ w) (hf : ∀ x ∈ l, -(2 ^ (w - 1) : Int) ≤ x ∧ x < 2 ^ (w - 1)) : zerosP l = (Sound.zeros w l : Int) ∧ Sound.zeros w l < w := by
  by_cases h0 : ∀ x ∈ l, x = 0
  · have e1 : together l = 0 := by
      unfold together
      have : ∀ (l : List Int) , (∀ x ∈ l, x = 0) → l.foldl Builtin.bitOr 0 = 0 := by
        intro l
        induction l with
        | nil => intro _; rfl
        | cons x l ih =>
          intro h
          rw [List.foldl_cons, h x (by simp)]
          exact ih fun y hy => h y (by simp [hy])
      exact this l h0
    have e2 : Sound.zeros w l = 0 := by
      unfold Sound.zeros
      rw [if_pos]
      simp; exact h0
    rw [e2]
    refine ⟨?_, by omega⟩
    unfold zerosP; rw [e1]; decide
  · have ht : together l ≠ 0 := fun e => h0 fun x hx => by
      have hz := (dvd_together w l).mp (by rw [e]; simp) x hx
      obtain ⟨a, b⟩ := hf x hx
      have e3 : (2 : Int) ^ w = 2 * 2 ^ (w - 1) := by rw [← Int.pow_succ']; congr 1; omega
      obtain ⟨k, hk⟩ := Int.dvd_of_emod_eq_zero hz
      have hpos : (0 : Int) < 2 ^ (w - 1) := Int.pow_pos (by decide)
      rw [e3] at hk
      rcases Int.lt_trichotomy k 0 with q | q | q
      · have : 2 * 2 ^ (w - 1) * k ≤ 2 * 2 ^ (w - 1) * (-1) := Int.mul_le_mul_of_nonneg_left (by omega) (by omega)
        omega
      · rw [hk, q]; simp
      · have : 2 * 2 ^ (w - 1) * 1 ≤ 2 * 2 ^ (w - 1) * k := Int.mul_le_mul_of_nonneg_left (by omega) (by omega)
        omega
    obtain ⟨k, h1, h2, h3⟩ := low_nat _ (together l).natAbs (Nat.le_refl _) (by omega)
    have d2 := (dvd_together k l).mp ((natAbs_mod k _).mp h2)
    have d3 : ¬ ∀ x ∈ l, x % 2 ^ (k + 1) = 0 := fun q => h3 ((natAbs_mod _ _).mpr ((dvd_together (k + 1) l).mpr q))
    have hk : k < w := by
      obtain ⟨x, hx⟩ := Classical.not_forall.mp h0
      obtain ⟨hx, hne⟩ := Classical.not_imp.mp hx
      obtain ⟨a, b⟩ := hf x hx
      have hd := d2 x hx
      refine Nat.lt_of_not_le fun hwk => hne ?_
      have hz := mod_le hwk hd
      have e3 : (2 : Int) ^ w = 2 * 2 ^ (w - 1) := by rw [← Int.pow_succ']; congr 1; omega
      obtain ⟨k, hk⟩ := Int.dvd_of_emod_eq_zero hz
      have hpos : (0 : Int) < 2 ^ (w - 1) := Int.pow_pos (by decide)
      rw [e3] at hk
      rcases Int.lt_trichotomy k 0 with q | q | q
      · have : 2 * 2 ^ (w - 1) * k ≤ 2 * 2 ^ (w - 1) * (-1) := Int.mul_le_mul_of_nonneg_left (by omega) (by omega)
        omega
      · rw [hk, q]; simp
      · have : 2 * 2 ^ (w - 1) * 1 ≤ 2 * 2 ^ (w - 1) * k := Int.mul_le_mul_of_nonneg_left (by omega) (by omega)
        omega
    have e2 : Sound.zeros w l = k := by
      unfold Sound.zeros
      rw [if_neg, find_rev (k := k) _ _ w hk]
      · rfl
      · simpa using d2
      · intro z hz
        cases q : l.all fun (x : Int) => x % (2 ^ z : Int) == 0 with
        | false => rfl
        | true =>
          refine absurd ?_ d3
          intro x hx
          have := List.all_eq_true.mp q x hx
          exact mod_le hz (by simpa using this)
      · simpa using h0
    rw [e2]
    refine ⟨?_, hk⟩
    unfold zerosP
    rw [and_neg ht, h1, intBits_pow]
    unfold maxP
    omega
end Wg
namespace Wg
open PySem Sound
def bl (n : Nat) : Nat := if n = 0 then 0 else n.log2 + 1
theorem bl_int (n : Nat) : Builtin.Int.intBits (n : Int) = bl n := by
  unfold Builtin.Int.intBits bl
  by_cases h : n = 0
  · subst h; rfl
  · rw [if_neg h, if_neg (by simpa using h), Int.natAbs_natCast]
theorem bl_lt (n : Nat) : n < 2 ^ bl n := by
  unfold bl
  by_cases h : n = 0
  · subst h; decide
  · rw [if_neg h]; exact Nat.lt_log2_self
theorem bl_le {n v : Nat} (h : n < 2 ^ v) : bl n ≤ v := by
  unfold bl
  by_cases h0 : n = 0
  · rw [if_pos h0]; exact Nat.zero_le _
  · rw [if_neg h0]
    exact (Nat.log2_lt h0).mpr h
def maxN (l : List Nat) : Nat := l.foldl max 0
theorem maxN_ge : ∀ (l : List Nat) (a : Nat), a ≤ l.foldl max a ∧ ∀ x ∈ l, x ≤ l.foldl max a
  | [], a => ⟨Nat.le_refl _, fun x h => by simp at h⟩
  | y :: l, a => by
    obtain ⟨h1, h2⟩ := maxN_ge l (max a y)
    rw [List.foldl_cons]
    refine ⟨Nat.le_trans (Nat.le_max_left _ _) h1, fun x hx => ?_⟩
    rcases List.mem_cons.mp hx with rfl | hx
    · exact Nat.le_trans (Nat.le_max_right _ _) h1
    · exact h2 x hx
theorem maxN_mem : ∀ (l : List Nat) (a : Nat), l.foldl max a = a ∨ l.foldl max a ∈ l
  | [], a => .inl rfl
  | y :: l, a => by
    rw [List.foldl_cons]
    rcases maxN_mem l (max a y) with h | h
    · rcases Nat.le_total a y with q | q
      · rw [h, Nat.max_eq_right q]; exact .inr (by simp)
      · rw [h, Nat.max_eq_left q]; exact .inl rfl
    · exact .inr (List.mem_cons_of_mem _ h)
theorem le_maxN {l : List Nat} {x : Nat} (h : x ∈ l) : x ≤ maxN l := (maxN_ge l 0).2 x h
theorem maxN_lt {l : List Nat} {b : Nat} (hb : 0 < b) (h : ∀ x ∈ l, x < b) : maxN l < b := by
  rcases maxN_mem l 0 with e | e
  · unfold maxN; rw [e]; exact hb
  · exact h _ e
theorem maxN_is {l : List Nat} {m : Nat} (h1 : m ∈ l) (h2 : ∀ y ∈ l, y ≤ m) : maxN l = m := by
  have a := le_maxN h1
  rcases maxN_mem l 0 with e | e
  · have : maxN l = 0 := e
    omega
  · have := h2 _ e
    have : maxN l ≤ m := this
    omega
def comb {α : Type} (acc : Option (α × Nat)) (x : α × Nat) : Option (α × Nat) := match acc with
  | none => some x
  | some a => if x.2 < a.2 then some x else some a
theorem leastOf_comb {α : Type} : ∀ (l : List (α × Nat)) (acc : Option (α × Nat)), l.foldl comb acc = match acc, leastOf l with
    | none, r => r
    | some a, none => some a
    | some a, some z => if z.2 < a.2 then some z else some a
  | [], acc => by cases acc <;> rfl
  | x :: l, acc => by
    rw [List.foldl_cons, leastOf_comb l]
    cases acc with
    | none =>
      simp only [comb, leastOf]
      cases leastOf l with
      | none => rfl
      | some z =>
        simp only
        by_cases h : z.2 < x.2
        · rw [if_pos h, if_neg (by omega)]
        · rw [if_neg h, if_pos (by omega)]
    | some a =>
      simp only [comb, leastOf]
      by_cases h : x.2 < a.2
      · rw [if_pos h]
        cases leastOf l with
        | none => simp only; rw [if_pos h]
        | some z =>
          simp only
          by_cases q : z.2 < x.2
          · rw [if_pos q, if_neg (by omega)]
            exact (if_pos (show z.2 < a.2 by omega)).symm
          · rw [if_neg q, if_pos (by omega)]
            exact (if_pos h).symm
      · rw [if_neg h]
        cases leastOf l with
        | none => simp only; rw [if_neg h]
        | some z =>
          simp only
          by_cases q : z.2 < a.2
          · rw [if_pos q, if_neg (by omega)]
            exact (if_pos q).symm
          · rw [if_neg q]
            by_cases r : x.2 ≤ z.2
            · rw [if_pos r]
              exact (if_neg h).symm
            · rw [if_neg r]
              exact (if_neg q).symm
theorem leastOf_foldl {α : Type} (l : List (α × Nat)) : l.foldl comb none = leastOf l := by rw [leastOf_comb]
theorem leastOf_snoc {α : Type} (b : α × Nat) : ∀ l : List (α × Nat), leastOf (l ++ [b]) = some (l.foldr (fun x z => if x.2 ≤ z.2 then x else z) b)
  | [] => rfl
  | x :: l => by
    rw [List.cons_append, leastOf, leastOf_snoc b l]
    simp only [List.foldr_cons]
    split <;> rfl
def cost (F : List Nat) (g : Nat) : Nat := 5 + F.length * (g + 1) + (F.map fun n => n / 2 ^ g).sum
def lgStep (F : List Nat) (s : Nat × Nat) (lower : Nat) : Nat × Nat := if cost F lower ≤ s.2 then (lower, cost F lower) else s
theorem total_sum : ∀ (l : List Nat) (a : Nat), l.foldl (fun (a b : Nat) => a + b) a = a + l.sum
  | [], a => by simp
  | x :: l, a => by rw [List.foldl_cons, total_sum l, List.sum_cons]; omega
theorem size_cost (es : List Int) {g : Nat} (h : g < 31) : groupSize es ⟨g, 0⟩ = cost (es.map fold) g := by
  unfold groupSize cost
  rw [if_neg (by simp; omega)]
  unfold total
  rw [total_sum]
  induction es with
  | nil => simp
  | cons e es ih => simp [Nat.add_mul] at ih ⊢; omega
theorem fits_fold {v : Nat} (hv : 1 ≤ v) (e : Int) : Sound.fits v e = decide (fold e < 2 ^ v) := by
  have h2 : (2 : Nat) ^ v = 2 * 2 ^ (v - 1) := by rw [← Nat.pow_succ']; congr 1; omega
  have h3 : ((2 : Int) ^ (v - 1)) = ((2 ^ (v - 1) : Nat) : Int) := by simp
  unfold Sound.fits fold
  rw [h2, h3]
  generalize 2 ^ (v - 1) = b
  by_cases h : e < 0
  · rw [if_pos h]
    by_cases q : -(b : Int) ≤ e
    · have : (-2 * e - 1).toNat < 2 * b := by omega
      simp [q, this]; omega
    · have : ¬ (-2 * e - 1).toNat < 2 * b := by omega
      rw [decide_eq_false q, decide_eq_false this]; rfl
  · rw [if_neg h]
    by_cases q : e < (b : Int)
    · have : (2 * e).toNat < 2 * b := by omega
      simp [q, this]; omega
    · have : ¬ (2 * e).toNat < 2 * b := by omega
      simp [q, this]
theorem zero_fold (e : Int) : (e == 0) = decide (fold e < 2 ^ 0) := by
  unfold fold
  by_cases h : e < 0
  · rw [if_pos h]
    have : ¬ (-2 * e - 1).toNat < 2 ^ 0 := by simp only [Nat.pow_zero]; omega
    rw [decide_eq_false this]; simp; omega
  · rw [if_neg h]
    by_cases q : e = 0
    · subst q; rfl
    · have : ¬ (2 * e).toNat < 2 ^ 0 := by simp only [Nat.pow_zero]; omega
      rw [decide_eq_false this]; simpa using q
theorem room_eq {es : List Int} (hb : ∀ e ∈ es, fold e < 2 ^ 40) : room es = bl (maxN (es.map fold)) := by
  have hp : ∀ v : Nat, (es.all fun (e : Int) => if v = 0 then e == 0 else Sound.fits v e) = decide (maxN (es.map fold) < 2 ^ v) := fun v => by
    have e1 : ∀ e : Int, (if v = 0 then e == 0 else Sound.fits v e) = decide (fold e < 2 ^ v) := fun e => by
      by_cases h : v = 0
      · subst h; exact zero_fold e
      · rw [if_neg h]; exact fits_fold (by omega) e
    rw [Bool.eq_iff_iff, List.all_eq_true, decide_eq_true_eq]
    constructor
    · intro h
      refine maxN_lt (Nat.two_pow_pos v) fun x hx => ?_
      obtain ⟨e, he, rfl⟩ := List.mem_map.mp hx
      have := h e he
      rw [e1] at this
      simpa using this
    · intro h e he
      rw [e1, decide_eq_true_eq]
      exact Nat.lt_of_le_of_lt (le_maxN (List.mem_map_of_mem he)) h
  unfold room
  simp only [hp]
  have hm : maxN (es.map fold) < 2 ^ 40 := maxN_lt (by decide) fun x hx => by
    obtain ⟨e, he, rfl⟩ := List.mem_map.mp hx
    exact hb e he
  have hle := bl_le hm
  have : (List.range 64).find? (fun v => decide (maxN (es.map fold) < 2 ^ v)) = some (bl (maxN (es.map fold))) := by
    rw [List.find?_range_eq_some]
    refine ⟨by simpa using bl_lt _, by simp; omega, fun j hj => ?_⟩
    simp only [Bool.not_eq_true', decide_eq_false_iff_not, Nat.not_lt]
    exact Nat.le_of_not_lt fun q => by
      have := bl_le q
      omega
  rw [this]; rfl
theorem foldr_dom {X : List Nat} {b : Nat × Nat} {G : Nat} (hG : ∀ x ∈ X, x < 2 ^ (G - 1)) (h1 : 1 ≤ G) (hG31 : G ≤ 31) :
    ((List.range 31).map fun g => (g, cost X g)).foldr (fun x z => if x.2 ≤ z.2 then x else z) b = ((List.range G).map fun g => (g, cost X g)).foldr (fun x z => if x.2 ≤ z.2 then x else z) b := by
  have big : ∀ g, G - 1 ≤ g → cost X g = 5 + X.length * (g + 1) := fun g hg => by
    unfold cost
    have : (X.map fun n => n / 2 ^ g) = X.map fun _ => 0 := List.map_congr_left fun x hx => Nat.div_eq_of_lt (Nat.lt_of_lt_of_le (hG x hx) (Nat.pow_le_pow_right (by decide) hg))
    rw [this]
    have z : ∀ l : List Nat, (l.map fun _ => 0).sum = 0 := fun l => by
      induction l with
      | nil => rfl
      | cons x X ih => rw [List.map_cons, List.sum_cons, ih]
    rw [z]; rfl
  have mono : ∀ g, G - 1 ≤ g → cost X (G - 1) ≤ cost X g := fun g hg => by
    rw [big g hg, big (G - 1) (Nat.le_refl _)]
    have := Nat.mul_le_mul_left X.length (show G - 1 + 1 ≤ g + 1 by omega)
    omega
  have split : List.range 31 = List.range G ++ (List.range (31 - G)).map (fun i => G + i) := by
    rw [← List.range_add]; congr 1; omega
  rw [split, List.map_append, List.foldr_append]
  have tail : ∀ l : List Nat, (∀ g ∈ l, G - 1 ≤ g) → let Z := (l.map fun g => (g, cost X g)).foldr (fun x z => if x.2 ≤ z.2 then x else z) b
      Z = b ∨ (cost X (G - 1) ≤ Z.2 ∧ Z.2 ≤ b.2) := by
    intro l
    induction l with
    | nil => intro _; exact .inl rfl
    | cons g l ih =>
      intro h
      have ih := ih fun x hx => h x (List.mem_cons_of_mem _ hx)
      simp only [List.map_cons, List.foldr_cons] at ih ⊢
      generalize (l.map fun g => (g, cost X g)).foldr (fun x z => if x.2 ≤ z.2 then x else z) b = Z at ih ⊢
      by_cases q : cost X g ≤ Z.2
      · rw [if_pos q]
        refine .inr ⟨mono g (h g (by simp)), ?_⟩
        rcases ih with e | e
        · rw [← e]; exact q
        · exact Nat.le_trans q e.2
      · rw [if_neg q]; exact ih
  have ht := tail ((List.range (31 - G)).map (fun i => G + i)) fun g hg => by
    obtain ⟨i, _, rfl⟩ := List.mem_map.mp hg
    omega
  simp only at ht
  generalize (((List.range (31 - G)).map (fun i => G + i)).map fun g => (g, cost X g)).foldr (fun x z => if x.2 ≤ z.2 then x else z) b = Z at ht ⊢
  rcases ht with e | ⟨e1, e2⟩
  · rw [e]
  · have last : List.range G = List.range (G - 1) ++ [G - 1] := by
      rw [← List.range_succ]; congr 1; omega
    rw [last, List.map_append, List.foldr_append, List.foldr_append]
    congr 1
    simp only [List.map_cons, List.map_nil, List.foldr_cons, List.foldr_nil]
    exact (if_pos e1).trans (if_pos (Nat.le_trans e1 e2)).symm
def lgBest (X : List Nat) (G : Nat) : Nat × Nat := (List.range G).reverse.foldl (lgStep X) (31, 11 + X.length * bl (maxN X))
theorem bestWay_eq {es : List Int} {G : Nat} (hb : ∀ e ∈ es, fold e < 2 ^ 40) (hG : ∀ e ∈ es, fold e < 2 ^ (G - 1)) (h1 : 1 ≤ G) (hG31 : G ≤ 31) :
    bestWay es = some (⟨(lgBest (es.map fold) G).1, if (lgBest (es.map fold) G).1 = 31 then bl (maxN (es.map fold)) else 0⟩, (lgBest (es.map fold) G).2) := by
  have hall : (es.all fun (e : Int) => decide (fold e < GREAT)) = true := List.all_eq_true.mpr fun e he => decide_eq_true (hb e he)
  have hr := room_eq hb
  have hle : room es ≤ 40 := by rw [hr]; exact bl_le (maxN_lt (by decide) fun x hx => by
    obtain ⟨e, he, rfl⟩ := List.mem_map.mp hx
    exact hb e he)
  unfold bestWay ways
  rw [if_pos hall, if_pos hle, List.map_append, List.map_cons, List.map_nil, List.map_map, leastOf_snoc]
  let wy : Nat × Nat → Way × Nat := fun x => (⟨x.1, if x.1 = 31 then bl (maxN (es.map fold)) else 0⟩, x.2)
  have hl : ((List.range 31).map ((fun (w : Way) => (w, groupSize es w)) ∘ fun (g : Nat) => (⟨g, 0⟩ : Way))) = ((List.range 31).map fun g => (g, cost (es.map fold) g)).map wy := by
    rw [List.map_map]
    refine List.map_congr_left fun g hg => ?_
    have : g < 31 := by simpa using hg
    show ((⟨g, 0⟩ : Way), groupSize es ⟨g, 0⟩) = wy (g, cost (es.map fold) g)
    rw [size_cost es this]
    show _ = ((⟨g, if g = 31 then _ else 0⟩ : Way), _)
    rw [if_neg (by omega)]
  have h31 : ((⟨31, room es⟩ : Way), groupSize es ⟨31, room es⟩) = wy (31, 11 + (es.map fold).length * bl (maxN (es.map fold))) := by
    show _ = ((⟨31, if 31 = 31 then _ else 0⟩ : Way), _)
    rw [if_pos rfl, ← hr]
    show _ = (_, _)
    congr 1
    unfold groupSize
    rw [if_pos rfl, List.length_map, Nat.mul_comm]
  rw [hl, h31]
  have push : ∀ (l : List (Nat × Nat)) (b : Nat × Nat), (l.map wy).foldr (fun x z => if x.2 ≤ z.2 then x else z) (wy b) = wy (l.foldr (fun x z => if x.2 ≤ z.2 then x else z) b) := by
    intro l b
    induction l with
    | nil => rfl
    | cons x l ih =>
      simp only [List.map_cons, List.foldr_cons, ih]
      show (if x.2 ≤ (l.foldr (fun x z => if x.2 ≤ z.2 then x else z) b).2 then _ else _) = _
      split <;> rfl
  rw [push, foldr_dom (G := G) (fun x hx => by
    obtain ⟨e, he, rfl⟩ := List.mem_map.mp hx
    exact hG e he) h1 hG31]
  have fin : ((List.range G).map fun g => (g, cost (es.map fold) g)).foldr (fun x z => if x.2 ≤ z.2 then x else z) (31, 11 + (es.map fold).length * bl (maxN (es.map fold))) = lgBest (es.map fold) G := by
    unfold lgBest
    rw [List.foldl_reverse, List.foldr_map]
    rfl
  rw [fin]
end Wg
namespace Wg
open PySem Sound
structure GW where
  first : Nat
  last : Nat
  g : Nat
  v : Nat
  bits : Nat
structure RW where
  r : Nat
  groups : List GW
  bits : Nat
def slice {α : Type} (l : List α) (a b : Nat) : List α := (l.drop a).take (b - a)
def leastGroup (F : List Nat) (G first last : Nat) : GW := ⟨first, last, (lgBest (slice F first last) G).1, bl (maxN (slice F first last)), (lgBest (slice F first last) G).2⟩
def firstOf (n p r i : Nat) : Nat := if i = 0 then 0 else i * (n / 2 ^ r) - p
def lastOf (n p r i : Nat) : Nat := (i + 1) * (n / 2 ^ r) - p
def splitGroups (n p r : Nat) (F : List Nat) (G : Nat) : List GW := (List.range (2 ^ r)).map fun i => leastGroup F G (firstOf n p r i) (lastOf n p r i)
def restsWay (n p r : Nat) (F : List Nat) (G : Nat) : RW := ⟨r, splitGroups n p r F G, 3 + ((splitGroups n p r F G).map GW.bits).sum⟩
def canSplit (n p r : Nat) : Bool := decide (r ≤ 6) && (decide (n / 2 ^ r * 2 ^ r = n) && decide (p ≤ n / 2 ^ r))
def gOf (F : List Nat) : Nat := min 31 (bl (maxN F) + 1)
def lrStep (n p : Nat) (F : List Nat) (least : Option RW) (r : Nat) : Option RW := if canSplit n p r = true then (match least with
  | none => some (restsWay n p r F (gOf F))
  | some l => if (restsWay n p r F (gOf F)).bits < l.bits then some (restsWay n p r F (gOf F)) else some l) else least
def leastRests (n p : Nat) (F : List Nat) : Option RW := (List.range 7).foldl (lrStep n p F) none
def wayOf (X : List Nat) (G : Nat) : Way := ⟨(lgBest X G).1, if (lgBest X G).1 = 31 then bl (maxN X) else 0⟩
theorem slice_map {α β : Type} (f : α → β) (l : List α) (a b : Nat) : (slice l a b).map f = slice (l.map f) a b := by simp [slice, List.map_take, List.map_drop]
theorem cut_slice {n p r : Nat} (hp : p ≤ n / 2 ^ r) (es : List Int) : Sound.cut n p r es = (List.range (2 ^ r)).map fun i => slice es (firstOf n p r i) (lastOf n p r i) := by
  unfold Sound.cut
  refine List.map_congr_left fun i _ => ?_
  unfold slice firstOf lastOf
  generalize n / 2 ^ r = sz at hp ⊢
  by_cases h : i = 0
  · subst h; simp
  · rw [if_neg h, if_neg h]
    have e : (i + 1) * sz = i * sz + sz := by rw [Nat.add_mul, Nat.one_mul]
    have q : 1 * sz ≤ i * sz := Nat.mul_le_mul_right sz (by omega)
    have e2 : (i + 1) * sz - p - (i * sz - p) = sz := by omega
    rw [e2]
theorem mem_slice {α : Type} {l : List α} {a b : Nat} {x : α} (h : x ∈ slice l a b) : x ∈ l := List.mem_of_mem_drop (List.mem_of_mem_take h)
theorem gOf_ok {F : List Nat} : 1 ≤ gOf F ∧ gOf F ≤ 31 := by unfold gOf; omega
theorem lt_gOf {F : List Nat} {x : Nat} (hx : x ∈ F) (hF : gOf F < 31) : x < 2 ^ (gOf F - 1) := by
  have : gOf F - 1 = bl (maxN F) := by unfold gOf at hF ⊢; omega
  rw [this]
  exact Nat.lt_of_le_of_lt (le_maxN hx) (bl_lt _)
theorem bestWay_eq' {es : List Int} {F : List Nat} (hb : ∀ e ∈ es, fold e < 2 ^ 40) (hF : ∀ e ∈ es, fold e ∈ F) :
    bestWay es = some (wayOf (es.map fold) (gOf F), (lgBest (es.map fold) (gOf F)).2) := by
  obtain ⟨h1, h31⟩ := gOf_ok (F := F)
  by_cases h : gOf F < 31
  · exact bestWay_eq hb (fun e he => lt_gOf (hF e he) h) h1 h31
  · have e : gOf F = 31 := by omega
    have hall : (es.all fun (e : Int) => decide (fold e < GREAT)) = true := List.all_eq_true.mpr fun e he => decide_eq_true (hb e he)
    have hr := room_eq hb
    have hle : room es ≤ 40 := by rw [hr]; exact bl_le (maxN_lt (by decide) fun x hx => by
      obtain ⟨e, he, rfl⟩ := List.mem_map.mp hx
      exact hb e he)
    rw [e]
    unfold bestWay ways
    rw [if_pos hall, if_pos hle, List.map_append, List.map_cons, List.map_nil, List.map_map, leastOf_snoc]
    let wy : Nat × Nat → Way × Nat := fun x => (⟨x.1, if x.1 = 31 then bl (maxN (es.map fold)) else 0⟩, x.2)
    have hl : ((List.range 31).map ((fun (w : Way) => (w, groupSize es w)) ∘ fun (g : Nat) => (⟨g, 0⟩ : Way))) = ((List.range 31).map fun g => (g, cost (es.map fold) g)).map wy := by
      rw [List.map_map]
      refine List.map_congr_left fun g hg => ?_
      have : g < 31 := by simpa using hg
      show ((⟨g, 0⟩ : Way), groupSize es ⟨g, 0⟩) = wy (g, cost (es.map fold) g)
      rw [size_cost es this]
      show _ = ((⟨g, if g = 31 then _ else 0⟩ : Way), _)
      rw [if_neg (by omega)]
    have hh31 : ((⟨31, room es⟩ : Way), groupSize es ⟨31, room es⟩) = wy (31, 11 + (es.map fold).length * bl (maxN (es.map fold))) := by
      show _ = ((⟨31, if 31 = 31 then _ else 0⟩ : Way), _)
      rw [if_pos rfl, ← hr]
      show _ = (_, _)
      congr 1
      unfold groupSize
      rw [if_pos rfl, List.length_map, Nat.mul_comm]
    rw [hl, hh31]
    have push : ∀ (l : List (Nat × Nat)) (b : Nat × Nat), (l.map wy).foldr (fun x z => if x.2 ≤ z.2 then x else z) (wy b) = wy (l.foldr (fun x z => if x.2 ≤ z.2 then x else z) b) := by
      intro l b
      induction l with
      | nil => rfl
      | cons x l ih =>
        simp only [List.map_cons, List.foldr_cons, ih]
        show (if x.2 ≤ (l.foldr (fun x z => if x.2 ≤ z.2 then x else z) b).2 then _ else _) = _
        split <;> rfl
    rw [push]
    have fin : ((List.range 31).map fun g => (g, cost (es.map fold) g)).foldr (fun x z => if x.2 ≤ z.2 then x else z) (31, 11 + (es.map fold).length * bl (maxN (es.map fold))) = lgBest (es.map fold) 31 := by
      unfold lgBest
      rw [List.foldl_reverse, List.foldr_map]
      rfl
    rw [fin]
    rfl
def specGroups (n p r : Nat) (es : List Int) (G : Nat) : List (List Int × Way) := (List.range (2 ^ r)).map fun i =>
  (slice es (firstOf n p r i) (lastOf n p r i), wayOf ((slice es (firstOf n p r i) (lastOf n p r i)).map fold) G)
theorem cutWays_map {es : List Int} (hb : ∀ e ∈ es, fold e < 2 ^ 40) (f l : Nat → Nat) : ∀ is : List Nat,
    cutWays (is.map fun i => slice es (f i) (l i)) = some (is.map (fun i => (slice es (f i) (l i), wayOf ((slice es (f i) (l i)).map fold) (gOf (es.map fold)))), 3 + (is.map fun i => (lgBest ((slice es (f i) (l i)).map fold) (gOf (es.map fold))).2).sum)
  | [] => rfl
  | i :: is => by
    rw [List.map_cons, cutWays, bestWay_eq' (F := es.map fold) (fun e he => hb e (mem_slice he)) (fun e he => List.mem_map_of_mem (mem_slice he)), cutWays_map hb f l is]
    simp only [List.map_cons, List.sum_cons]
    congr 2
    omega
theorem leastRests_eq {n p : Nat} {es : List Int} (hb : ∀ e ∈ es, fold e < 2 ^ 40) :
    bestCut n p es = (leastRests n p (es.map fold)).map fun w => ((w.r, specGroups n p w.r es (gOf (es.map fold))), w.bits) := by
  unfold bestCut leastRests
  rw [← leastOf_foldl]
  let tr : RW → (Nat × List (List Int × Way)) × Nat := fun w => ((w.r, specGroups n p w.r es (gOf (es.map fold))), w.bits)
  have one : ∀ r : Nat, r ≤ 6 → (if mayCut n p r = true then (cutWays (Sound.cut n p r es)).map fun (c : List (List Int × Way) × Nat) => ((r, c.1), c.2) else none) =
      if canSplit n p r = true then some (tr (restsWay n p r (es.map fold) (gOf (es.map fold)))) else none := fun r hr => by
    have hc : canSplit n p r = mayCut n p r := by
      unfold canSplit mayCut
      rw [decide_eq_true hr, Bool.true_and]
      congr 1
      have := Nat.div_add_mod n (2 ^ r)
      rw [Nat.mul_comm] at this
      rw [Bool.eq_iff_iff, decide_eq_true_eq, beq_iff_eq]
      omega
    rw [hc]
    by_cases h : mayCut n p r = true
    · rw [if_pos h, if_pos h]
      have hp : p ≤ n / 2 ^ r := by unfold mayCut at h; simp at h; exact h.2
      rw [cut_slice hp, cutWays_map hb]
      show some _ = some _
      congr 1
      show _ = (_, _)
      unfold specGroups restsWay splitGroups
      simp only [List.map_map]
      refine Prod.ext rfl ?_
      show 3 + _ = 3 + _
      congr 2
      refine List.map_congr_left fun i _ => ?_
      show (lgBest _ _).2 = (leastGroup _ _ _ _).bits
      unfold leastGroup
      rw [slice_map]
    · rw [if_neg h, if_neg h]
  have step : ∀ (l : List Nat), (∀ r ∈ l, r ≤ 6) → ∀ acc : Option RW,
      (l.filterMap fun (r : Nat) => if mayCut n p r = true then (cutWays (Sound.cut n p r es)).map fun (c : List (List Int × Way) × Nat) => ((r, c.1), c.2) else none).foldl comb (acc.map tr) = (l.foldl (lrStep n p (es.map fold)) acc).map tr := by
    intro l
    induction l with
    | nil => intro _ acc; rfl
    | cons r l ih =>
      intro h acc
      have ih := ih fun x hx => h x (List.mem_cons_of_mem _ hx)
      rw [List.filterMap_cons, one r (h r (by simp)), List.foldl_cons]
      by_cases hc : canSplit n p r = true
      · rw [if_pos hc]
        simp only [List.foldl_cons]
        rw [← ih]
        congr 1
        unfold lrStep
        rw [if_pos hc]
        cases acc with
        | none => rfl
        | some a =>
          show (if (tr (restsWay n p r (es.map fold) (gOf (es.map fold)))).2 < (tr a).2 then _ else _) = Option.map tr (if _ then _ else _)
          by_cases q : (restsWay n p r (es.map fold) (gOf (es.map fold))).bits < a.bits
          · rw [if_pos q, if_pos q]; rfl
          · rw [if_neg q, if_neg q]; rfl
      · rw [if_neg hc]
        rw [ih]
        congr 1
        unfold lrStep
        rw [if_neg hc]
  exact step (List.range 7) (fun r hr => by simp at hr; omega) none
theorem leastRests_some {n p : Nat} (hp : p ≤ n) (F : List Nat) : ∃ w, leastRests n p F = some w ∧ canSplit n p w.r = true := by
  unfold leastRests
  have h0 : canSplit n p 0 = true := by unfold canSplit; simp [hp]
  have stay : ∀ (l : List Nat) (w : RW), canSplit n p w.r = true → ∃ w', l.foldl (lrStep n p F) (some w) = some w' ∧ canSplit n p w'.r = true := by
    intro l
    induction l with
    | nil => intro w hw; exact ⟨w, rfl, hw⟩
    | cons r l ih =>
      intro w hw
      rw [List.foldl_cons]
      unfold lrStep
      by_cases hc : canSplit n p r = true
      · rw [if_pos hc]
        simp only
        split
        · exact ih _ hc
        · exact ih _ hw
      · rw [if_neg hc]; exact ih _ hw
  rw [show List.range 7 = 0 :: (List.range 6).map (· + 1) from rfl, List.foldl_cons]
  have e : lrStep n p F none 0 = some (restsWay n p 0 F (gOf F)) := by unfold lrStep; rw [if_pos h0]
  rw [e]
  exact stay _ _ h0
end Wg
namespace Wg
open PySem Sound
def atTot : List Int → List Int → Nat → Int
  | [], _, _ => 0
  | f :: fs, y, t => f * y.getD (t - 1) 0 + atTot fs y (t - 1)
def atP (a : List Int) (h : Nat) (y : List Int) (t : Nat) : Int := atTot a y t / 2 ^ h
def restsP (a : List Int) (h : Nat) (y : List Int) : List Int := (List.range (y.length - a.length)).map fun i => y.getD (a.length + i) 0 - atP a h y (a.length + i)
theorem ip_take : ∀ a b : List Int, ip a (b.take a.length) = ip a b
  | [], b => by simp [ip]
  | x :: a, [] => by simp [ip]
  | x :: a, y :: b => by simp [ip, ip_take a b]
theorem take_getD {y : List Int} {t : Nat} (h : t < y.length) : (y.take (t + 1)).reverse = y.getD t 0 :: (y.take t).reverse := by
  rw [List.take_succ, List.getElem?_eq_getElem h, List.getD_eq_getElem?_getD, List.getElem?_eq_getElem h]
  simp
theorem ip_at : ∀ (a y : List Int) (t : Nat), t ≤ y.length → a.length ≤ t → ip a (y.take t).reverse = atTot a y t
  | [], y, t, _, _ => by simp [ip, atTot]
  | f :: fs, y, 0, h1, h2 => by simp at h2
  | f :: fs, y, t + 1, h1, h2 => by
    rw [take_getD (by omega)]
    simp only [ip, atTot, Nat.add_sub_cancel]
    rw [ip_at fs y t (by omega) (by simpa using h2)]
theorem guess_at {a y before : List Int} {h t : Nat} (h1 : t ≤ y.length) (h2 : a.length ≤ t) (hb : before.take a.length = (y.take t).reverse.take a.length) : guess a h before = atP a h y t := by
  unfold guess atP
  rw [sumOf_zip, ← ip_take, hb, ip_take, ip_at a y t h1 h2, Int.fdiv_eq_ediv_of_nonneg _ (Int.le_of_lt (Int.pow_pos (by decide)))]
theorem restsFrom_eq {a y : List Int} {h : Nat} : ∀ (m t : Nat) (before : List Int), t + m = y.length → a.length ≤ t → before.take a.length = (y.take t).reverse.take a.length →
    restsFrom a h before (y.drop t) = (List.range m).map fun i => y.getD (t + i) 0 - atP a h y (t + i)
  | 0, t, before, h1, h2, hb => by
    rw [List.drop_eq_nil_of_le (by omega)]; rfl
  | m + 1, t, before, h1, h2, hb => by
    have ht : t < y.length := by omega
    rw [List.drop_eq_getElem_cons ht, restsFrom, guess_at (by omega) h2 hb, List.range_succ_eq_map, List.map_cons]
    have e : y.getD t 0 = y[t] := by rw [List.getD_eq_getElem?_getD, List.getElem?_eq_getElem ht]; rfl
    congr 1
    · rw [Nat.add_zero, e]
    · rw [restsFrom_eq m (t + 1) _ (by omega) (by omega), List.map_map]
      · refine List.map_congr_left fun i _ => ?_
        show _ = y.getD (t + (i + 1)) 0 - atP a h y (t + (i + 1))
        rw [show t + (i + 1) = t + 1 + i by omega]
      · rw [take_getD ht, e, hb]
        cases hh : a.length with
        | zero => rfl
        | succ q => simp [List.take_take]
theorem rests_eq {a y : List Int} {h : Nat} (hp : a.length ≤ y.length) : rests a h y = restsP a h y := by
  unfold rests restsP
  exact restsFrom_eq _ _ _ (by omega) (Nat.le_refl _) rfl
def Bd (B : Int) (l : List Int) : Prop := ∀ x ∈ l, -B ≤ x ∧ x ≤ B
theorem Bd.getD {B : Int} {l : List Int} (hB : 0 ≤ B) (h : Bd B l) (i : Nat) : -B ≤ l.getD i 0 ∧ l.getD i 0 ≤ B := by
  rw [List.getD_eq_getElem?_getD]
  cases e : l[i]? with
  | none => simp; omega
  | some x => exact h x (List.mem_of_getElem? e)
theorem mul_bd {A B x y : Int} (hA : 0 ≤ A) (hx : -A ≤ x ∧ x ≤ A) (hy : -B ≤ y ∧ y ≤ B) : -(A * B) ≤ x * y ∧ x * y ≤ A * B := by
  have hB : 0 ≤ B := by omega
  have n1 : (x * y).natAbs ≤ (A * B).natAbs := by
    rw [Int.natAbs_mul, Int.natAbs_mul]
    exact Nat.mul_le_mul (by omega) (by omega)
  have := Int.mul_nonneg hA hB
  omega
theorem atTot_bd {A B : Int} (hA : 0 ≤ A) (hB : 0 ≤ B) : ∀ (a y : List Int) (t : Nat), Bd A a → Bd B y → -(a.length * (A * B)) ≤ atTot a y t ∧ atTot a y t ≤ a.length * (A * B)
  | [], y, t, _, _ => by simp [atTot]
  | f :: fs, y, t, ha, hy => by
    have h1 := mul_bd hA (ha f (by simp)) (hy.getD hB (t - 1))
    have h2 := atTot_bd hA hB fs y (t - 1) (fun x hx => ha x (List.mem_cons_of_mem _ hx)) hy
    simp only [atTot, List.length_cons]
    have e : ((fs.length + 1 : Nat) : Int) * (A * B) = fs.length * (A * B) + A * B := by
      rw [Int.natCast_add, Int.add_mul]; simp
    rw [e]
    omega
theorem div_bd {M x : Int} {h : Nat} (hx : -M ≤ x ∧ x ≤ M) : -M ≤ x / 2 ^ h ∧ x / 2 ^ h ≤ M := by
  have hp : (0 : Int) < 2 ^ h := Int.pow_pos (by decide)
  have h1 : (1 : Int) ≤ 2 ^ h := hp
  have hM : 0 ≤ M := by omega
  constructor
  · rw [Int.le_ediv_iff_mul_le hp]
    have : -M * 2 ^ h ≤ -M * 1 := Int.mul_le_mul_of_nonpos_left (by omega) h1
    omega
  · have : x / 2 ^ h ≤ M / 2 ^ h := Int.ediv_le_ediv hp hx.2
    have := Int.ediv_le_self (2 ^ h) hM
    omega
theorem rest_bd {A B : Int} (hA : 0 ≤ A) (hB : 0 ≤ B) {a y : List Int} {h t : Nat} (ha : Bd A a) (hy : Bd B y) : -(B + a.length * (A * B)) ≤ y.getD t 0 - atP a h y t ∧ y.getD t 0 - atP a h y t ≤ B + a.length * (A * B) := by
  have h1 := hy.getD hB t
  have h2 := div_bd (h := h) (atTot_bd hA hB a y t ha hy)
  unfold atP
  omega
theorem fold_bd {e : Int} (h : -274877906944 ≤ e ∧ e ≤ 274877906944) : fold e < 2 ^ 40 := by
  unfold fold
  have : (2 : Nat) ^ 40 = 1099511627776 := by decide
  split <;> omega
theorem rests_fold {a y : List Int} {h : Nat} (ha : Bd 2048 a) (hl : a.length ≤ 4) (hy : Bd 16777216 y) : ∀ e ∈ restsP a h y, fold e < 2 ^ 40 := by
  intro e he
  obtain ⟨i, _, rfl⟩ := List.mem_map.mp he
  have := rest_bd (t := a.length + i) (h := h) (by decide : (0 : Int) ≤ 2048) (by decide : (0 : Int) ≤ 16777216) ha hy
  refine fold_bd ?_
  have e1 : (a.length : Int) * (2048 * 16777216) ≤ 4 * (2048 * 16777216) := by omega
  omega
theorem u_len (n v : Nat) : (u n v).length = n := by simp [u]
theorem sb_len (n : Nat) (z : Int) : (sb n z).length = n := u_len _ _
theorem run_len (q : Nat) : (Sound.run q).length = q + 1 := by simp [Sound.run]
theorem flat_len {α : Type} {f : α → Bits} {k : Nat} : ∀ l : List α, (∀ x ∈ l, (f x).length = k) → (l.flatMap f).length = l.length * k
  | [], _ => by simp
  | x :: l, h => by
    rw [List.flatMap_cons, List.length_append, h x (by simp), flat_len l fun y hy => h y (List.mem_cons_of_mem _ hy), List.length_cons, Nat.add_mul]; omega
theorem numbers_len (w : Nat) (y : List Int) : (Sound.numbers w y).length = y.length * w := flat_len _ fun x _ => sb_len w x
theorem flag_len (z : Nat) : (flag z).length = 1 + z := by
  unfold flag
  split
  · rename_i h; subst h; rfl
  · rename_i h; rw [List.length_cons, run_len]; omega
theorem group_len (es : List Int) (w : Way) : (groupBits es w).length = groupSize es w := by
  unfold groupBits groupSize
  by_cases h : w.g = 31
  · rw [if_pos h, if_pos h, List.length_append, List.length_append, u_len, u_len, flat_len es fun e _ => sb_len w.v e, Nat.mul_comm]; omega
  · rw [if_neg h, if_neg h, List.length_append, u_len]
    congr 1
    unfold total
    rw [total_sum]
    induction es with
    | nil => rfl
    | cons e es ih => rw [List.flatMap_cons, List.length_append, ih, List.map_cons, List.sum_cons, List.length_append, run_len, u_len]; omega
theorem leastOf_mem {α : Type} : ∀ {l : List (α × Nat)} {x : α × Nat}, leastOf l = some x → x ∈ l
  | [], x, h => by cases h
  | y :: l, x, h => by
    rw [leastOf] at h
    cases e : leastOf l with
    | none => rw [e] at h; cases h; simp
    | some z =>
      rw [e] at h
      simp only at h
      split at h
      · cases h; simp
      · cases h; exact List.mem_cons_of_mem _ (leastOf_mem e)
theorem cutWays_len : ∀ (ls : List (List Int)) (x : List (List Int × Way)) (k : Nat), cutWays ls = some (x, k) → (x.flatMap fun (y : List Int × Way) => groupBits y.1 y.2).length + 3 = k
  | [], x, k, h => by cases h; rfl
  | l :: ls, x, k, h => by
    rw [cutWays] at h
    cases e1 : bestWay l with
    | none => rw [e1] at h; cases h
    | some wk =>
      obtain ⟨w, k1⟩ := wk
      cases e2 : cutWays ls with
      | none => rw [e1, e2] at h; cases h
      | some xk =>
        obtain ⟨x', k2⟩ := xk
        rw [e1, e2] at h
        cases h
        have ih := cutWays_len ls x' k2 e2
        have hm := leastOf_mem e1
        obtain ⟨w', _, hw⟩ := List.mem_map.mp hm
        cases hw
        rw [List.flatMap_cons, List.length_append, group_len]
        simp only
        omega
theorem bestCut_len {n p : Nat} {es : List Int} {c : (Nat × List (List Int × Way)) × Nat} (h : bestCut n p es = some c) : (restBits c.1).length = c.2 := by
  have hm := leastOf_mem h
  obtain ⟨r, _, hr⟩ := List.mem_filterMap.mp hm
  by_cases q : mayCut n p r = true
  · rw [if_pos q] at hr
    obtain ⟨c', h1, h2⟩ := Option.map_eq_some_iff.mp hr
    subst h2
    have := cutWays_len _ _ _ h1
    unfold restBits
    rw [List.length_append, u_len]
    simp only
    omega
  · rw [if_neg q] at hr; cases hr
def guessed (w z p : Nat) (a : List Int) (h : Nat) (y : List Int) (more : Nat) : Option Nat := (leastRests y.length p ((restsP a h y).map fold)).map fun (q : RW) => 1 + z + 4 + (p * w + q.bits) + more
def kindN (w z : Nat) (y : List Int) (kind : Nat) : Option Nat :=
  if kind = 1 then some (1 + z + 4 + y.length * w)
  else if kind ≤ 6 then (if kind - 2 ≤ y.length then guessed w z (kind - 2) (FIXED.getD (kind - 2) []) 0 y 0 else none)
  else if kind - 6 < y.length then (match linGuess y (kind - 6) with
    | none => none
    | some (h, a) => guessed w z (kind - 6) a h y (4 + (kind - 6) * 12)) else none
theorem factors_ok {y : List Int} {p h : Nat} {a : List Int} (e : factors y p = some (h, a)) (hp : 1 ≤ p) (h4 : p ≤ 4) (hn : p ≤ y.length) : a.length = p ∧ Bd 2048 a ∧ h ≤ 15 := by
  unfold factors at e
  rcases exact_solved hp h4 hn with ⟨e1, _⟩ | ⟨d, ns, rows, e1, _, g⟩
  · rw [e1] at e; cases e
  · rw [e1] at e
    obtain ⟨h', h1, h2⟩ := Option.map_eq_some_iff.mp e
    cases h2
    have hm := List.find?_some h1
    have hmem := List.mem_of_find?_eq_some h1
    refine ⟨by rw [List.length_map, g.nlen], fun x hx => ?_, by simp at hmem; omega⟩
    obtain ⟨n, hn, rfl⟩ := List.mem_map.mp hx
    have := List.all_eq_true.mp hm n hn
    simp at this
    omega
theorem fixed_ok {p : Nat} (h : p ≤ 4) : (FIXED.getD p []).length = p ∧ Bd 2048 (FIXED.getD p []) := by
  rcases (by omega : p = 0 ∨ p = 1 ∨ p = 2 ∨ p = 3 ∨ p = 4) with rfl | rfl | rfl | rfl | rfl
  · exact ⟨rfl, fun x hx => by simp [FIXED] at hx⟩
  · exact ⟨rfl, fun x hx => by simp [FIXED] at hx; omega⟩
  · exact ⟨rfl, fun x hx => by simp [FIXED] at hx; omega⟩
  · exact ⟨rfl, fun x hx => by simp [FIXED] at hx; omega⟩
  · exact ⟨rfl, fun x hx => by simp [FIXED] at hx; omega⟩
theorem kind_len {w z : Nat} {y : List Int} {kind : Nat} (h1 : 1 ≤ kind) (h10 : kind ≤ 10) (hy : Bd 16777216 y) : (Sound.kindBits w y kind).map (fun b => (flag z ++ b).length) = kindN w z y kind := by
  unfold Sound.kindBits kindN
  rw [if_neg (by omega)]
  by_cases k1 : kind = 1
  · rw [if_pos k1, if_pos k1]
    show some ((flag z ++ (u 4 kind ++ Sound.numbers w y)).length) = some _
    rw [List.length_append, List.length_append, flag_len, u_len, numbers_len]
    congr 1
    omega
  rw [if_neg k1, if_neg k1]
  by_cases k6 : kind ≤ 6
  · rw [if_pos k6, if_pos k6]
    simp only
    by_cases hp : y.length < kind - 2
    · rw [if_pos hp, if_neg (by omega)]; rfl
    · rw [if_neg hp, if_pos (by omega)]
      obtain ⟨f1, f2⟩ := fixed_ok (p := kind - 2) (by omega)
      generalize FIXED.getD (kind - 2) [] = a at f1 f2 ⊢
      rw [rests_eq (by omega), Option.map_map]
      unfold guessed
      have hb := rests_fold (h := 0) f2 (by omega) hy
      rw [leastRests_eq hb, Option.map_map]
      cases e : leastRests y.length (kind - 2) ((restsP a 0 y).map fold) with
      | none => rfl
      | some q =>
        have hc := bestCut_len (leastRests_eq (n := y.length) (p := kind - 2) hb |>.trans (by rw [e]; rfl))
        show some _ = some _
        congr 1
        show (flag z ++ (u 4 kind ++ (Sound.numbers w (y.take (kind - 2)) ++ restBits _))).length = _
        rw [List.length_append, List.length_append, List.length_append, flag_len, u_len, numbers_len, hc, List.length_take, Nat.min_eq_left (by omega)]
        simp only
        omega
  · rw [if_neg k6, if_neg k6]
    simp only
    by_cases hp : y.length ≤ kind - 6
    · rw [if_pos hp, if_neg (by omega)]; rfl
    · rw [if_neg hp, if_pos (by omega), linGuess_eq (by omega) (by omega) (by omega)]
      cases ef : factors y (kind - 6) with
      | none => rfl
      | some ha =>
        obtain ⟨h, a⟩ := ha
        obtain ⟨f1, f2, f3⟩ := factors_ok ef (by omega) (by omega) (by omega)
        simp only
        rw [rests_eq (by omega), Option.map_map]
        unfold guessed
        have hb := rests_fold (h := h) f2 (by omega) hy
        rw [leastRests_eq hb, Option.map_map]
        cases e : leastRests y.length (kind - 6) ((restsP a h y).map fold) with
        | none => rfl
        | some q =>
          have hc := bestCut_len (leastRests_eq (n := y.length) (p := kind - 6) hb |>.trans (by rw [e]; rfl))
          show some _ = some _
          congr 1
          show (flag z ++ (u 4 kind ++ (Sound.numbers w (y.take (kind - 6)) ++ (u 4 h ++ (Sound.numbers 12 a ++ restBits _))))).length = _
          rw [List.length_append, List.length_append, List.length_append, List.length_append, List.length_append, flag_len, u_len, u_len, numbers_len, numbers_len, hc, List.length_take, Nat.min_eq_left (by omega), f1]
          simp only
          omega
theorem shrunk_bd {w : Nat} {s : List Int} (hw : w ≤ 25) (hf : ∀ x ∈ s, -(2 ^ (w - 1) : Int) ≤ x ∧ x < 2 ^ (w - 1)) : Bd 16777216 (Sound.shrunk w s) := by
  intro x hx
  obtain ⟨y, hy, rfl⟩ := List.mem_map.mp hx
  obtain ⟨a, b⟩ := hf y hy
  have : (2 : Int) ^ (w - 1) ≤ 2 ^ 24 := by
    have := Nat.pow_le_pow_right (show 0 < 2 by decide) (show w - 1 ≤ 24 by omega)
    exact_mod_cast this
  have e : (2 : Int) ^ 24 = 16777216 := by decide
  exact div_bd (h := zeros w s) ⟨by omega, by omega⟩
end Wg
namespace Wg
open PySem
theorem value_foldl (l : Sound.Bits) : ∀ a : Nat, l.foldl (fun (n : Nat) (b : Bool) => 2 * n + (if b = true then 1 else 0)) a = a * 2 ^ l.length + Sound.value l := by
  induction l with
  | nil => intro a; simp [Sound.value]
  | cons b l ih =>
    intro a
    unfold Sound.value
    rw [List.foldl_cons, List.foldl_cons, ih, ih (2 * 0 + _), List.length_cons, Nat.pow_succ]
    generalize 2 ^ l.length = m
    rw [Nat.add_mul, Nat.add_mul]
    have e1 : 2 * a * m = a * (m * 2) := by rw [Nat.mul_comm m 2, ← Nat.mul_assoc, Nat.mul_comm a 2]
    have e2 : 2 * 0 * m = 0 := by simp
    omega
theorem value_append (l m : Sound.Bits) : Sound.value (l ++ m) = Sound.value l * 2 ^ m.length + Sound.value m := by
  unfold Sound.value
  rw [List.foldl_append, value_foldl m]
  rfl
theorem value_cons (b : Bool) (l : Sound.Bits) : Sound.value (b :: l) = (if b = true then 1 else 0) * 2 ^ l.length + Sound.value l := by
  have := value_append [b] l
  rw [List.singleton_append] at this
  rw [this]
  cases b <;> rfl
theorem value_lt : ∀ l : Sound.Bits, Sound.value l < 2 ^ l.length
  | [] => by simp [Sound.value]
  | b :: l => by
    have := value_lt l
    rw [value_cons, List.length_cons, Nat.pow_succ]
    cases b <;> simp <;> omega
theorem u_succ (n v : Nat) : Sound.u (n + 1) v = v.testBit n :: Sound.u n v := by
  unfold Sound.u
  rw [List.range_succ_eq_map, List.map_cons, List.map_map]
  congr 1
  refine List.map_congr_left fun i hi => ?_
  show v.testBit (n + 1 - 1 - (i + 1)) = v.testBit (n - 1 - i)
  congr 1; omega
theorem value_u : ∀ n v : Nat, Sound.value (Sound.u n v) = v % 2 ^ n
  | 0, v => by simp [Sound.u, Sound.value, Nat.mod_one]
  | n + 1, v => by
    rw [u_succ, value_cons, value_u n v, u_len]
    have h := Nat.mod_mul (x := v) (a := 2 ^ n) (b := 2)
    have hb : v.testBit n = decide (v / 2 ^ n % 2 = 1) := by rw [Nat.testBit_eq_decide_div_mod_eq]
    rw [Nat.pow_succ, h, hb]
    rcases Nat.mod_two_eq_zero_or_one (v / 2 ^ n) with e | e
    · rw [e]; simp
    · rw [e]; simp; omega
theorem value_false (n : Nat) : Sound.value (List.replicate n false) = 0 := by
  induction n with
  | zero => rfl
  | succ n ih => rw [List.replicate_succ, value_cons, ih]; simp
theorem bitOr_nat (a b : Nat) : Builtin.bitOr (a : Int) (b : Int) = ((a ||| b : Nat) : Int) := by
  rw [or_pp (by omega) (by omega), Int.toNat_natCast, Int.toNat_natCast]
theorem bitAnd_nat (a b : Nat) : Builtin.bitAnd (a : Int) (b : Int) = ((a &&& b : Nat) : Int) := by
  unfold Builtin.bitAnd
  have h1 : decide (0 ≤ (a : Int)) = true := by simp
  have h2 : decide (0 ≤ (b : Int)) = true := by simp
  simp only [h1, h2, Int.toNat_natCast]
theorem xor_lo (n m : Nat) : (n ^^^ m) % 2 = (n + m) % 2 := by
  have h := Nat.testBit_xor n m 0
  simp only [Nat.testBit_zero] at h
  rcases Nat.mod_two_eq_zero_or_one n with a | a <;> rcases Nat.mod_two_eq_zero_or_one m with b | b <;> rw [a, b] at h
  · have : ¬ (n ^^^ m) % 2 = 1 := of_decide_eq_false h
    omega
  · have : (n ^^^ m) % 2 = 1 := of_decide_eq_true h
    omega
  · have : (n ^^^ m) % 2 = 1 := of_decide_eq_true h
    omega
  · have : ¬ (n ^^^ m) % 2 = 1 := of_decide_eq_false h
    omega
theorem xor_hi (n m : Nat) : (n ^^^ m) / 2 = n / 2 ^^^ m / 2 := by
  apply Nat.eq_of_testBit_eq; intro i
  rw [Nat.testBit_xor, Nat.testBit_div_two, Nat.testBit_div_two, Nat.testBit_div_two, Nat.testBit_xor]
theorem or_xor : ∀ (k n m : Nat), n ≤ k → m ≤ k → (n ||| m) = (n ^^^ m) + (n &&& m)
  | 0, n, m, h1, h2 => by
    have : n = 0 := by omega
    have : m = 0 := by omega
    subst n m; rfl
  | k + 1, n, m, h1, h2 => by
    by_cases h0 : n = 0 ∧ m = 0
    · obtain ⟨rfl, rfl⟩ := h0; rfl
    have ih := or_xor k (n / 2) (m / 2) (by omega) (by omega)
    have a1 := or_lo n m
    have a2 := xor_lo n m
    have a3 := and_lo n m
    have b1 := or_hi n m
    have b2 := xor_hi n m
    have b3 := and_hi n m
    omega
theorem bitXor_nat (a b : Nat) : Builtin.bitXor (a : Int) (b : Int) = ((a ^^^ b : Nat) : Int) := by
  unfold Builtin.bitXor
  rw [bitOr_nat, bitAnd_nat, or_xor (max a b) a b (by omega) (by omega)]
  omega
theorem or_shift {a b w : Nat} (h : b < 2 ^ w) : Builtin.bitOr ((a : Int) * 2 ^ w) (b : Int) = ((a * 2 ^ w + b : Nat) : Int) := by
  have e : (a : Int) * 2 ^ w = ((a * 2 ^ w : Nat) : Int) := by simp
  rw [e, bitOr_nat, Nat.mul_comm, Nat.two_pow_add_eq_or_of_lt h]
theorem mask (x : Int) (w : Nat) : Builtin.bitAnd x ((2 ^ w : Int) - 1) = x % 2 ^ w := by
  have hp : 0 < 2 ^ w := Nat.two_pow_pos w
  have e2 : ((2 : Int) ^ w) = ((2 ^ w : Nat) : Int) := by simp
  have e1 : (2 : Int) ^ w - 1 = ((2 ^ w - 1 : Nat) : Int) := by rw [e2]; omega
  rcases Int.lt_or_le x 0 with hx | hx
  · unfold Builtin.bitAnd Builtin.bitNot
    have h1 : decide (0 ≤ x) = false := by simp; omega
    have h2 : decide (0 ≤ (2 : Int) ^ w - 1) = true := by rw [e1]; simp
    simp only [h1, h2]
    rw [e1, Int.toNat_natCast, Nat.and_comm, Nat.and_two_pow_sub_one_eq_mod]
    generalize hm : (-x - 1).toNat = m
    have hd := Nat.div_add_mod m (2 ^ w)
    have hlt := Nat.mod_lt m hp
    rw [e2]
    have ex : x = ((2 ^ w - 1 - m % 2 ^ w : Nat) : Int) + ((2 ^ w : Nat) : Int) * (-((m / 2 ^ w : Nat) : Int) - 1) := by
      have : ((2 ^ w : Nat) : Int) * (-((m / 2 ^ w : Nat) : Int) - 1) = -((2 ^ w * (m / 2 ^ w) : Nat) : Int) - ((2 ^ w : Nat) : Int) := by
        rw [Int.mul_sub, Int.mul_neg, ← Int.natCast_mul, Int.mul_one]
      rw [this]
      omega
    have : x % ((2 ^ w : Nat) : Int) = ((2 ^ w - 1 - m % 2 ^ w : Nat) : Int) := by
      rw [ex, Int.add_mul_emod_self_left]
      exact Int.emod_eq_of_lt (by omega) (by omega)
    rw [this]
    omega
  · obtain ⟨n, rfl⟩ := Int.eq_ofNat_of_zero_le hx
    rw [e1, bitAnd_nat, Nat.and_two_pow_sub_one_eq_mod, e2]
    simp
theorem and255 (n : Nat) : Builtin.bitAnd (n : Int) 255 = ((n % 256 : Nat) : Int) := by
  have := mask (n : Int) 8
  have e : (2 : Int) ^ 8 = 256 := by decide
  rw [e] at this
  rw [show (255 : Int) = 256 - 1 by decide, this]
  simp
theorem bytes_vals : ∀ (nb k : Nat) (L : Sound.Bits), L.length = 8 * nb → nb ≤ k → (Sound.bytesOf (k + 1) L).map UInt8.toNat = (List.range nb).map fun i => Sound.value L / 2 ^ (8 * (nb - 1 - i)) % 256
  | 0, k, L, hl, _ => by
    have : L = [] := List.eq_nil_of_length_eq_zero (by omega)
    subst this
    rfl
  | nb + 1, k, L, hl, hk => by
    have hne : L.isEmpty = false := by cases L with
      | nil => simp at hl
      | cons _ _ => rfl
    rw [Sound.bytesOf, hne, if_neg Bool.false_ne_true, List.map_cons, List.range_succ_eq_map, List.map_cons, List.map_map]
    have hs : L = L.take 8 ++ L.drop 8 := (List.take_append_drop 8 L).symm
    have l1 : (L.take 8).length = 8 := by rw [List.length_take]; omega
    have l2 : (L.drop 8).length = 8 * nb := by rw [List.length_drop]; omega
    have hv : Sound.value L = Sound.value (L.take 8) * 2 ^ (8 * nb) + Sound.value (L.drop 8) := by
      conv => lhs; rw [hs]
      rw [value_append, l2]
    have b1 : Sound.value (L.take 8) < 256 := by have := value_lt (L.take 8); rw [l1] at this; exact this
    have b2 : Sound.value (L.drop 8) < 2 ^ (8 * nb) := by have := value_lt (L.drop 8); rw [l2] at this; exact this
    obtain ⟨k', rfl⟩ : ∃ k', k = k' + 1 := ⟨k - 1, by omega⟩
    congr 1
    · rw [show 8 * (nb + 1 - 1 - 0) = 8 * nb by omega, hv]
      have : (Sound.value (L.take 8) * 2 ^ (8 * nb) + Sound.value (L.drop 8)) / 2 ^ (8 * nb) = Sound.value (L.take 8) := by
        rw [Nat.mul_comm, Nat.mul_add_div (Nat.two_pow_pos _), Nat.div_eq_of_lt b2, Nat.add_zero]
      rw [this, UInt8.toNat_ofNat']
    · rw [bytes_vals nb k' (L.drop 8) l2 (by omega)]
      refine List.map_congr_left fun i hi => ?_
      have hi : i < nb := by simpa using hi
      show Sound.value (L.drop 8) / 2 ^ (8 * (nb - 1 - i)) % 256 = Sound.value L / 2 ^ (8 * (nb + 1 - 1 - (i + 1))) % 256
      rw [show 8 * (nb + 1 - 1 - (i + 1)) = 8 * (nb - 1 - i) by omega, hv]
      have e : (2 : Nat) ^ (8 * nb) = 2 ^ (8 * (nb - 1 - i)) * (256 * 2 ^ (8 * i)) := by
        rw [show (256 : Nat) = 2 ^ 8 by decide, ← Nat.pow_add, ← Nat.pow_add]
        congr 1; omega
      rw [e]
      generalize 2 ^ (8 * (nb - 1 - i)) = m at *
      have hm : 0 < m := by
        rcases Nat.eq_zero_or_pos m with z | z
        · rw [z, Nat.zero_mul] at e
          have := Nat.two_pow_pos (8 * nb)
          omega
        · exact z
      have : Sound.value (L.take 8) * (m * (256 * 2 ^ (8 * i))) + Sound.value (L.drop 8) = m * (256 * (Sound.value (L.take 8) * 2 ^ (8 * i))) + Sound.value (L.drop 8) := by grind
      rw [this, Nat.mul_add_div hm, Nat.add_comm, Nat.add_mul_mod_self_left]
end Wg
namespace Wg
open PySem
def crcStepP (p : Nat) : Nat := if 65535 < 2 * p then 2 * p ^^^ 69665 else 2 * p
def crcByteP (c b : Nat) : Nat := (List.range 8).foldl (fun p _ => crcStepP p) (c ^^^ (b * 256))
def crcP (l : List Nat) : Nat := l.foldl crcByteP 65535
def stepS (c : Nat) (x : Bool) : Nat := let d := 2 * c % 65536
  if (c.testBit 15 != x) = true then d ^^^ 0x1021 else d
theorem tb_mod (q i : Nat) : (q % 65536).testBit i = (decide (i < 16) && q.testBit i) := by
  rw [show (65536 : Nat) = 2 ^ 16 by decide, Nat.testBit_mod_two_pow]
theorem flip16 {q : Nat} (h1 : 65536 ≤ q) (h2 : q < 131072) : q ^^^ 65536 = q % 65536 := by
  apply Nat.eq_of_testBit_eq
  intro i
  rw [Nat.testBit_xor, tb_mod, show (65536 : Nat) = 2 ^ 16 by decide, Nat.testBit_two_pow]
  rcases Nat.lt_trichotomy i 16 with h | h | h
  · rw [decide_eq_true h, decide_eq_false (by omega)]; simp
  · subst h
    have : q.testBit 16 = true := by
      rw [Nat.testBit_eq_decide_div_mod_eq]
      simp; omega
    rw [this]; simp
  · have : q.testBit i = false := Nat.testBit_lt_two_pow (Nat.lt_of_lt_of_le h2 (by rw [show (131072 : Nat) = 2 ^ 17 by decide]; exact Nat.pow_le_pow_right (by decide) h))
    rw [this, decide_eq_false (by omega), decide_eq_false (by omega)]; rfl
theorem dbl_xor (a b : Nat) : 2 * (a ^^^ b) % 65536 = (2 * a % 65536) ^^^ (2 * b % 65536) := by
  apply Nat.eq_of_testBit_eq
  intro i
  rw [Nat.testBit_xor, tb_mod, tb_mod, tb_mod]
  cases i with
  | zero => simp [Nat.testBit_zero]
  | succ i =>
    have e : ∀ x : Nat, (2 * x).testBit (i + 1) = x.testBit i := fun x => by
      rw [Nat.testBit_succ]; congr 1; omega
    rw [e, e, e, Nat.testBit_xor]
    cases decide (i + 1 < 16) <;> simp
theorem tb15 {p : Nat} (h : p < 65536) : p.testBit 15 = decide (65535 < 2 * p) := by
  rw [Nat.testBit_eq_decide_div_mod_eq]
  have : p / 2 ^ 15 = p / 32768 := rfl
  rw [this, Bool.eq_iff_iff, decide_eq_true_eq, decide_eq_true_eq]; omega
theorem xor_lt16 {a b : Nat} (h1 : a < 65536) (h2 : b < 65536) : a ^^^ b < 65536 := Nat.xor_lt_two_pow (n := 16) h1 h2
theorem stepS_lt {c : Nat} (x : Bool) : stepS c x < 65536 := by
  unfold stepS
  simp only
  split
  · exact xor_lt16 (Nat.mod_lt _ (by decide)) (by decide)
  · exact Nat.mod_lt _ (by decide)
theorem stepP {s r : Nat} (hs : s < 65536) (hr : r < 256) : crcStepP (s ^^^ (r * 256)) = stepS s (r.testBit 7) ^^^ ((2 * r % 256) * 256) := by
  have hp : s ^^^ (r * 256) < 65536 := xor_lt16 hs (by omega)
  have hb : (s ^^^ (r * 256)).testBit 15 = (s.testBit 15 != r.testBit 7) := by
    rw [Nat.testBit_xor, show r * 256 = 2 ^ 8 * r by omega, Nat.testBit_two_pow_mul]
    simp
  have hd : 2 * (s ^^^ (r * 256)) % 65536 = (2 * s % 65536) ^^^ ((2 * r % 256) * 256) := by
    rw [dbl_xor]
    congr 1; omega
  have h15 := tb15 hp
  unfold crcStepP stepS
  simp only
  rw [← hb, h15]
  by_cases hc : 65535 < 2 * (s ^^^ (r * 256))
  · rw [if_pos hc, if_pos (decide_eq_true hc)]
    have e : (69665 : Nat) = 65536 ^^^ 4129 := by decide
    rw [e, ← Nat.xor_assoc, flip16 (by omega) (by omega), hd, show (0x1021 : Nat) = 4129 by decide, Nat.xor_assoc, Nat.xor_assoc, Nat.xor_comm (2 * r % 256 * 256)]
  · rw [if_neg hc, if_neg (by simpa using hc), ← hd]
    omega
theorem byteP {c b : Nat} (hc : c < 65536) (hb : b < 256) : crcByteP c b = (Sound.u 8 b).foldl stepS c ∧ crcByteP c b < 65536 := by
  have hu : Sound.u 8 b = [b.testBit 7, b.testBit 6, b.testBit 5, b.testBit 4, b.testBit 3, b.testBit 2, b.testBit 1, b.testBit 0] := rfl
  have tb : ∀ (x i : Nat), i < 7 → (2 * x % 256).testBit (i + 1) = x.testBit i := fun x i hi => by
    rw [show (256 : Nat) = 2 ^ 8 by decide, Nat.testBit_mod_two_pow, decide_eq_true (by omega), Nat.testBit_succ, Bool.true_and]
    congr 1; omega
  have lt : ∀ x : Nat, 2 * x % 256 < 256 := fun x => Nat.mod_lt _ (by decide)
  have h0 := stepP hc hb
  have h1 := stepP (stepS_lt (c := c) (b.testBit 7)) (lt b)
  have h2 := stepP (stepS_lt (c := stepS c (b.testBit 7)) ((2 * b % 256).testBit 7)) (lt (2 * b % 256))
  rw [tb b 6 (by omega)] at h1 h2
  have h3 := stepP (stepS_lt (c := stepS (stepS c (b.testBit 7)) (b.testBit 6)) ((2 * (2 * b % 256) % 256).testBit 7)) (lt (2 * (2 * b % 256) % 256))
  rw [tb _ 6 (by omega), tb _ 5 (by omega)] at h2 h3
  have h4 := stepP (stepS_lt (c := stepS (stepS (stepS c (b.testBit 7)) (b.testBit 6)) (b.testBit 5)) ((2 * (2 * (2 * b % 256) % 256) % 256).testBit 7)) (lt (2 * (2 * (2 * b % 256) % 256) % 256))
  rw [tb _ 6 (by omega), tb _ 5 (by omega), tb _ 4 (by omega)] at h3 h4
  have h5 := stepP (stepS_lt (c := stepS (stepS (stepS (stepS c (b.testBit 7)) (b.testBit 6)) (b.testBit 5)) (b.testBit 4)) ((2 * (2 * (2 * (2 * b % 256) % 256) % 256) % 256).testBit 7)) (lt (2 * (2 * (2 * (2 * b % 256) % 256) % 256) % 256))
  rw [tb _ 6 (by omega), tb _ 5 (by omega), tb _ 4 (by omega), tb _ 3 (by omega)] at h4 h5
  have h6 := stepP (stepS_lt (c := stepS (stepS (stepS (stepS (stepS c (b.testBit 7)) (b.testBit 6)) (b.testBit 5)) (b.testBit 4)) (b.testBit 3)) ((2 * (2 * (2 * (2 * (2 * b % 256) % 256) % 256) % 256) % 256).testBit 7)) (lt (2 * (2 * (2 * (2 * (2 * b % 256) % 256) % 256) % 256) % 256))
  rw [tb _ 6 (by omega), tb _ 5 (by omega), tb _ 4 (by omega), tb _ 3 (by omega), tb _ 2 (by omega)] at h5 h6
  have h7 := stepP (stepS_lt (c := stepS (stepS (stepS (stepS (stepS (stepS c (b.testBit 7)) (b.testBit 6)) (b.testBit 5)) (b.testBit 4)) (b.testBit 3)) (b.testBit 2)) ((2 * (2 * (2 * (2 * (2 * (2 * b % 256) % 256) % 256) % 256) % 256) % 256).testBit 7)) (lt (2 * (2 * (2 * (2 * (2 * (2 * b % 256) % 256) % 256) % 256) % 256) % 256))
  rw [tb _ 6 (by omega), tb _ 5 (by omega), tb _ 4 (by omega), tb _ 3 (by omega), tb _ 2 (by omega), tb _ 1 (by omega)] at h6 h7
  rw [tb _ 6 (by omega), tb _ 5 (by omega), tb _ 4 (by omega), tb _ 3 (by omega), tb _ 2 (by omega), tb _ 1 (by omega), tb _ 0 (by omega)] at h7
  have hz : 2 * (2 * (2 * (2 * (2 * (2 * (2 * (2 * b % 256) % 256) % 256) % 256) % 256) % 256) % 256) % 256 = 0 := by omega
  have e : crcByteP c b = (Sound.u 8 b).foldl stepS c := by
    unfold crcByteP
    rw [show List.range 8 = [0, 1, 2, 3, 4, 5, 6, 7] from rfl]
    simp only [List.foldl_cons, List.foldl_nil]
    rw [h0, h1, h2, h3, h4, h5, h6, h7, hz, hu]
    simp only [List.foldl_cons, List.foldl_nil, Nat.zero_mul, Nat.xor_zero]
  rw [e]
  refine ⟨rfl, ?_⟩
  rw [hu]
  simp only [List.foldl_cons, List.foldl_nil]
  exact stepS_lt _
theorem crc_eq (b : Sound.Bytes) : crcP (b.map UInt8.toNat) = Sound.crc16 b := by
  have key : ∀ (l : Sound.Bytes) (c : Nat), c < 65536 → (l.map UInt8.toNat).foldl crcByteP c = (Sound.bitsOf l).foldl stepS c := by
    intro l
    induction l with
    | nil => intro c _; rfl
    | cons x l ih =>
      intro c hc
      obtain ⟨h1, h2⟩ := byteP hc x.toNat_lt
      have e : Sound.bitsOf (x :: l) = Sound.u 8 x.toNat ++ Sound.bitsOf l := List.flatMap_cons
      rw [List.map_cons, List.foldl_cons, e, List.foldl_append, ← h1, ih _ h2]
  unfold crcP
  rw [key b 65535 (by decide)]
  rfl
end Wg
namespace Wg
open PySem PySem.Spec PyProof.Rows L2
def top (i : Nat) : Stmt := PySem.Challenge.pw_soundkeeping_s01_frame.main.body.getD i (.Pass ⟨0, 0, 0, 0⟩)
abbrev s_crc16 : Stmt := top 3
abbrev s_is_form : Stmt := top 7
abbrev s_fits : Stmt := top 8
abbrev s_all_fit : Stmt := top 9
abbrev s_fixed_guess : Stmt := top 15
abbrev s_linear_guess : Stmt := top 16
abbrev s_normal_row : Stmt := top 17
abbrev s_lagged_product : Stmt := top 18
abbrev s_solved_guesses : Stmt := top 19
abbrev s_cleared : Stmt := top 20
abbrev s_nearest : Stmt := top 21
abbrev s_folded_rest : Stmt := top 27
abbrev s_can_split : Stmt := top 28
abbrev s_least_rests : Stmt := top 29
abbrev s_shifted_sums : Stmt := top 30
abbrev s_running_sums : Stmt := top 31
abbrev s_split_groups : Stmt := top 32
abbrev s_least_group : Stmt := top 33
abbrev s_write_rests : Stmt := top 34
abbrev s_write_rest : Stmt := top 35
abbrev s_order_of_kind : Stmt := top 43
abbrev s_shared_zeros : Stmt := top 44
abbrev s_least_part : Stmt := top 45
abbrev s_plain_way : Stmt := top 46
abbrev s_guessed_way : Stmt := top 47
abbrev s_chosen_guess : Stmt := top 48
abbrev s_write_part : Stmt := top 49
abbrev s_write_zeros : Stmt := top 50
abbrev s_write_plainly : Stmt := top 51
abbrev s_least_pair : Stmt := top 55
abbrev s_least_pairs : Stmt := top 56
abbrev s_write_frame : Stmt := top 57
abbrev s_counted : Stmt := top 60
abbrev s_frame : Stmt := top 61
abbrev s_BitWriter_init : Stmt := inClass (top 2) 0
abbrev s_BitWriter_unsigned : Stmt := inClass (top 2) 1
abbrev s_BitWriter_signed : Stmt := inClass (top 2) 2
abbrev s_BitWriter_run : Stmt := inClass (top 2) 3
abbrev s_BitWriter_whole_bytes : Stmt := inClass (top 2) 4
abbrev s_Form_init : Stmt := inClass (top 6) 0
abbrev s_Guess_init : Stmt := inClass (top 14) 0
abbrev s_Guess_at : Stmt := inClass (top 14) 1
abbrev s_Guess_all_rests : Stmt := inClass (top 14) 2
abbrev s_GroupWay_init : Stmt := inClass (top 25) 0
abbrev s_RestsWay_init : Stmt := inClass (top 26) 0
abbrev s_Shrunk_init : Stmt := inClass (top 41) 0
abbrev s_PartWay_init : Stmt := inClass (top 42) 0
abbrev s_PairWay_init : Stmt := inClass (top 54) 0
set_option genInjectivity false in
structure Adr where
  f_crc16 : Addr
  d_crc16 : FuncData
  f_is_form : Addr
  d_is_form : FuncData
  f_fits : Addr
  d_fits : FuncData
  f_all_fit : Addr
  d_all_fit : FuncData
  f_fixed_guess : Addr
  d_fixed_guess : FuncData
  f_linear_guess : Addr
  d_linear_guess : FuncData
  f_normal_row : Addr
  d_normal_row : FuncData
  f_lagged_product : Addr
  d_lagged_product : FuncData
  f_solved_guesses : Addr
  d_solved_guesses : FuncData
  f_cleared : Addr
  d_cleared : FuncData
  f_nearest : Addr
  d_nearest : FuncData
  f_folded_rest : Addr
  d_folded_rest : FuncData
  f_can_split : Addr
  d_can_split : FuncData
  f_least_rests : Addr
  d_least_rests : FuncData
  f_shifted_sums : Addr
  d_shifted_sums : FuncData
  f_running_sums : Addr
  d_running_sums : FuncData
  f_split_groups : Addr
  d_split_groups : FuncData
  f_least_group : Addr
  d_least_group : FuncData
  f_write_rests : Addr
  d_write_rests : FuncData
  f_write_rest : Addr
  d_write_rest : FuncData
  f_order_of_kind : Addr
  d_order_of_kind : FuncData
  f_shared_zeros : Addr
  d_shared_zeros : FuncData
  f_least_part : Addr
  d_least_part : FuncData
  f_plain_way : Addr
  d_plain_way : FuncData
  f_guessed_way : Addr
  d_guessed_way : FuncData
  f_chosen_guess : Addr
  d_chosen_guess : FuncData
  f_write_part : Addr
  d_write_part : FuncData
  f_write_zeros : Addr
  d_write_zeros : FuncData
  f_write_plainly : Addr
  d_write_plainly : FuncData
  f_least_pair : Addr
  d_least_pair : FuncData
  f_least_pairs : Addr
  d_least_pairs : FuncData
  f_write_frame : Addr
  d_write_frame : FuncData
  f_counted : Addr
  d_counted : FuncData
  f_frame : Addr
  d_frame : FuncData
  f_BitWriter_init : Addr
  d_BitWriter_init : FuncData
  f_BitWriter_unsigned : Addr
  d_BitWriter_unsigned : FuncData
  f_BitWriter_signed : Addr
  d_BitWriter_signed : FuncData
  f_BitWriter_run : Addr
  d_BitWriter_run : FuncData
  f_BitWriter_whole_bytes : Addr
  d_BitWriter_whole_bytes : FuncData
  f_Form_init : Addr
  d_Form_init : FuncData
  f_Guess_init : Addr
  d_Guess_init : FuncData
  f_Guess_at : Addr
  d_Guess_at : FuncData
  f_Guess_all_rests : Addr
  d_Guess_all_rests : FuncData
  f_GroupWay_init : Addr
  d_GroupWay_init : FuncData
  f_RestsWay_init : Addr
  d_RestsWay_init : FuncData
  f_Shrunk_init : Addr
  d_Shrunk_init : FuncData
  f_PartWay_init : Addr
  d_PartWay_init : FuncData
  f_PairWay_init : Addr
  d_PairWay_init : FuncData
  c_BitWriter : Addr
  c_Form : Addr
  c_Guess : Addr
  c_GroupWay : Addr
  c_RestsWay : Addr
  c_Shrunk : Addr
  c_PartWay : Addr
  c_PairWay : Addr
  t_FACTOR_WIDTH : Tok
  t_GREATEST_SHIFT : Tok
  t_GREATEST_SPLIT : Tok
  t_PLAIN : Tok
  t_SAME : Tok
  t_PLAIN_KIND : Tok
  t_FIRST_FIXED : Tok
  t_FIRST_LINEAR : Tok
  t_MARK_frames : Tok
  t_FRAME_NUMBERS : Tok
  a_RANGES : Addr
  a_RANGES_0 : Addr
  a_RANGES_1 : Addr
  a_RANGES_2 : Addr
  a_RANGES_3 : Addr
  a_RANGES_4 : Addr
  a_RANGES_5 : Addr
  a_FIXED : Addr
  a_FIXED_0 : Addr
  a_FIXED_1 : Addr
  a_FIXED_2 : Addr
  a_FIXED_3 : Addr
  a_FIXED_4 : Addr
structure Txt (K : PySem.W.Frag) (mg : Str → Option Value) (A : Adr) : Prop where
  F_crc16 : Fun K "crc16" "crc16" s_crc16 A.f_crc16 A.d_crc16
  b_crc16 : Binds K A.d_crc16 ["data"] []
  m_crc16 : mg "crc16" = some (.ref A.f_crc16)
  F_is_form : Fun K "is_form" "is_form" s_is_form A.f_is_form A.d_is_form
  b_is_form : Binds K A.d_is_form ["form"] []
  m_is_form : mg "is_form" = some (.ref A.f_is_form)
  F_fits : Fun K "fits" "fits" s_fits A.f_fits A.d_fits
  b_fits : Binds K A.d_fits ["width", "number"] []
  m_fits : mg "fits" = some (.ref A.f_fits)
  F_all_fit : Fun K "all_fit" "all_fit" s_all_fit A.f_all_fit A.d_all_fit
  b_all_fit : Binds K A.d_all_fit ["width", "numbers"] []
  m_all_fit : mg "all_fit" = some (.ref A.f_all_fit)
  F_fixed_guess : Fun K "fixed_guess" "fixed_guess" s_fixed_guess A.f_fixed_guess A.d_fixed_guess
  b_fixed_guess : Binds K A.d_fixed_guess ["order"] []
  m_fixed_guess : mg "fixed_guess" = some (.ref A.f_fixed_guess)
  F_linear_guess : Fun K "linear_guess" "linear_guess" s_linear_guess A.f_linear_guess A.d_linear_guess
  b_linear_guess : Binds K A.d_linear_guess ["order", "numbers"] []
  m_linear_guess : mg "linear_guess" = some (.ref A.f_linear_guess)
  F_normal_row : Fun K "normal_row" "normal_row" s_normal_row A.f_normal_row A.d_normal_row
  b_normal_row : Binds K A.d_normal_row ["order", "numbers", "lag"] []
  m_normal_row : mg "normal_row" = some (.ref A.f_normal_row)
  F_lagged_product : Fun K "lagged_product" "lagged_product" s_lagged_product A.f_lagged_product A.d_lagged_product
  b_lagged_product : Binds K A.d_lagged_product ["order", "numbers", "lag", "other"] []
  m_lagged_product : mg "lagged_product" = some (.ref A.f_lagged_product)
  F_solved_guesses : Fun K "solved" "solved" s_solved_guesses A.f_solved_guesses A.d_solved_guesses
  b_solved_guesses : Binds K A.d_solved_guesses ["equations"] []
  m_solved_guesses : mg "solved" = some (.ref A.f_solved_guesses)
  F_cleared : Fun K "cleared" "cleared" s_cleared A.f_cleared A.d_cleared
  b_cleared : Binds K A.d_cleared ["row", "chosen", "step"] []
  m_cleared : mg "cleared" = some (.ref A.f_cleared)
  F_nearest : Fun K "nearest" "nearest" s_nearest A.f_nearest A.d_nearest
  b_nearest : Binds K A.d_nearest ["number", "divisor"] []
  m_nearest : mg "nearest" = some (.ref A.f_nearest)
  F_folded_rest : Fun K "folded_rest" "folded_rest" s_folded_rest A.f_folded_rest A.d_folded_rest
  b_folded_rest : Binds K A.d_folded_rest ["rest"] []
  m_folded_rest : mg "folded_rest" = some (.ref A.f_folded_rest)
  F_can_split : Fun K "can_split" "can_split" s_can_split A.f_can_split A.d_can_split
  b_can_split : Binds K A.d_can_split ["n", "order", "r"] []
  m_can_split : mg "can_split" = some (.ref A.f_can_split)
  F_least_rests : Fun K "least_rests" "least_rests" s_least_rests A.f_least_rests A.d_least_rests
  b_least_rests : Binds K A.d_least_rests ["n", "order", "rests"] []
  m_least_rests : mg "least_rests" = some (.ref A.f_least_rests)
  F_shifted_sums : Fun K "shifted_sums" "shifted_sums" s_shifted_sums A.f_shifted_sums A.d_shifted_sums
  b_shifted_sums : Binds K A.d_shifted_sums ["folded"] []
  m_shifted_sums : mg "shifted_sums" = some (.ref A.f_shifted_sums)
  F_running_sums : Fun K "running_sums" "running_sums" s_running_sums A.f_running_sums A.d_running_sums
  b_running_sums : Binds K A.d_running_sums ["folded", "g"] []
  m_running_sums : mg "running_sums" = some (.ref A.f_running_sums)
  F_split_groups : Fun K "split_groups" "split_groups" s_split_groups A.f_split_groups A.d_split_groups
  b_split_groups : Binds K A.d_split_groups ["n", "order", "r", "folded", "sums"] []
  m_split_groups : mg "split_groups" = some (.ref A.f_split_groups)
  F_least_group : Fun K "least_group" "least_group" s_least_group A.f_least_group A.d_least_group
  b_least_group : Binds K A.d_least_group ["first", "last", "folded", "sums"] []
  m_least_group : mg "least_group" = some (.ref A.f_least_group)
  F_write_rests : Fun K "write_rests" "write_rests" s_write_rests A.f_write_rests A.d_write_rests
  b_write_rests : Binds K A.d_write_rests ["writer", "way", "rests"] []
  m_write_rests : mg "write_rests" = some (.ref A.f_write_rests)
  F_write_rest : Fun K "write_rest" "write_rest" s_write_rest A.f_write_rest A.d_write_rest
  b_write_rest : Binds K A.d_write_rest ["writer", "group", "rest"] []
  m_write_rest : mg "write_rest" = some (.ref A.f_write_rest)
  F_order_of_kind : Fun K "order_of_kind" "order_of_kind" s_order_of_kind A.f_order_of_kind A.d_order_of_kind
  b_order_of_kind : Binds K A.d_order_of_kind ["kind"] []
  m_order_of_kind : mg "order_of_kind" = some (.ref A.f_order_of_kind)
  F_shared_zeros : Fun K "shared_zeros" "shared_zeros" s_shared_zeros A.f_shared_zeros A.d_shared_zeros
  b_shared_zeros : Binds K A.d_shared_zeros ["numbers"] []
  m_shared_zeros : mg "shared_zeros" = some (.ref A.f_shared_zeros)
  F_least_part : Fun K "least_part" "least_part" s_least_part A.f_least_part A.d_least_part
  b_least_part : Binds K A.d_least_part ["width", "order", "numbers"] []
  m_least_part : mg "least_part" = some (.ref A.f_least_part)
  F_plain_way : Fun K "plain_way" "plain_way" s_plain_way A.f_plain_way A.d_plain_way
  b_plain_way : Binds K A.d_plain_way ["shrunk"] []
  m_plain_way : mg "plain_way" = some (.ref A.f_plain_way)
  F_guessed_way : Fun K "guessed_way" "guessed_way" s_guessed_way A.f_guessed_way A.d_guessed_way
  b_guessed_way : Binds K A.d_guessed_way ["kind", "shrunk"] []
  m_guessed_way : mg "guessed_way" = some (.ref A.f_guessed_way)
  F_chosen_guess : Fun K "chosen_guess" "chosen_guess" s_chosen_guess A.f_chosen_guess A.d_chosen_guess
  b_chosen_guess : Binds K A.d_chosen_guess ["kind", "order", "numbers"] []
  m_chosen_guess : mg "chosen_guess" = some (.ref A.f_chosen_guess)
  F_write_part : Fun K "write_part" "write_part" s_write_part A.f_write_part A.d_write_part
  b_write_part : Binds K A.d_write_part ["writer", "way"] []
  m_write_part : mg "write_part" = some (.ref A.f_write_part)
  F_write_zeros : Fun K "write_zeros" "write_zeros" s_write_zeros A.f_write_zeros A.d_write_zeros
  b_write_zeros : Binds K A.d_write_zeros ["writer", "z"] []
  m_write_zeros : mg "write_zeros" = some (.ref A.f_write_zeros)
  F_write_plainly : Fun K "write_plainly" "write_plainly" s_write_plainly A.f_write_plainly A.d_write_plainly
  b_write_plainly : Binds K A.d_write_plainly ["writer", "width", "numbers"] []
  m_write_plainly : mg "write_plainly" = some (.ref A.f_write_plainly)
  F_least_pair : Fun K "least_pair" "least_pair" s_least_pair A.f_least_pair A.d_least_pair
  b_least_pair : Binds K A.d_least_pair ["form", "left", "right"] []
  m_least_pair : mg "least_pair" = some (.ref A.f_least_pair)
  F_least_pairs : Fun K "least_pairs" "least_pairs" s_least_pairs A.f_least_pairs A.d_least_pairs
  b_least_pairs : Binds K A.d_least_pairs ["form", "channels"] []
  m_least_pairs : mg "least_pairs" = some (.ref A.f_least_pairs)
  F_write_frame : Fun K "write_frame" "write_frame" s_write_frame A.f_write_frame A.d_write_frame
  b_write_frame : Binds K A.d_write_frame ["form", "k", "numbers"] []
  m_write_frame : mg "write_frame" = some (.ref A.f_write_frame)
  F_counted : Fun K "counted" "counted" s_counted A.f_counted A.d_counted
  b_counted : Binds K A.d_counted ["data"] []
  m_counted : mg "counted" = some (.ref A.f_counted)
  F_frame : Fun K "frame" "frame" s_frame A.f_frame A.d_frame
  b_frame : Binds K A.d_frame ["k", "form", "numbers"] []
  m_frame : mg "frame" = some (.ref A.f_frame)
  F_BitWriter_init : Fun K "__init__" "BitWriter.__init__" s_BitWriter_init A.f_BitWriter_init A.d_BitWriter_init
  b_BitWriter_init : Binds K A.d_BitWriter_init ["self"] []
  F_BitWriter_unsigned : Fun K "unsigned" "BitWriter.unsigned" s_BitWriter_unsigned A.f_BitWriter_unsigned A.d_BitWriter_unsigned
  b_BitWriter_unsigned : Binds K A.d_BitWriter_unsigned ["self", "width", "number"] []
  e_BitWriter_unsigned : Meth K A.c_BitWriter "unsigned" A.f_BitWriter_unsigned
  F_BitWriter_signed : Fun K "signed" "BitWriter.signed" s_BitWriter_signed A.f_BitWriter_signed A.d_BitWriter_signed
  b_BitWriter_signed : Binds K A.d_BitWriter_signed ["self", "width", "number"] []
  e_BitWriter_signed : Meth K A.c_BitWriter "signed" A.f_BitWriter_signed
  F_BitWriter_run : Fun K "run" "BitWriter.run" s_BitWriter_run A.f_BitWriter_run A.d_BitWriter_run
  b_BitWriter_run : Binds K A.d_BitWriter_run ["self", "zeros"] []
  e_BitWriter_run : Meth K A.c_BitWriter "run" A.f_BitWriter_run
  F_BitWriter_whole_bytes : Fun K "whole_bytes" "BitWriter.whole_bytes" s_BitWriter_whole_bytes A.f_BitWriter_whole_bytes A.d_BitWriter_whole_bytes
  b_BitWriter_whole_bytes : Binds K A.d_BitWriter_whole_bytes ["self"] []
  e_BitWriter_whole_bytes : Meth K A.c_BitWriter "whole_bytes" A.f_BitWriter_whole_bytes
  F_Form_init : Fun K "__init__" "Form.__init__" s_Form_init A.f_Form_init A.d_Form_init
  b_Form_init : Binds K A.d_Form_init ["self", "form"] []
  F_Guess_init : Fun K "__init__" "Guess.__init__" s_Guess_init A.f_Guess_init A.d_Guess_init
  b_Guess_init : Binds K A.d_Guess_init ["self", "factors", "shift"] []
  F_Guess_at : Fun K "at" "Guess.at" s_Guess_at A.f_Guess_at A.d_Guess_at
  b_Guess_at : Binds K A.d_Guess_at ["self", "numbers", "place"] []
  e_Guess_at : Meth K A.c_Guess "at" A.f_Guess_at
  F_Guess_all_rests : Fun K "all_rests" "Guess.all_rests" s_Guess_all_rests A.f_Guess_all_rests A.d_Guess_all_rests
  b_Guess_all_rests : Binds K A.d_Guess_all_rests ["self", "numbers"] []
  e_Guess_all_rests : Meth K A.c_Guess "all_rests" A.f_Guess_all_rests
  F_GroupWay_init : Fun K "__init__" "GroupWay.__init__" s_GroupWay_init A.f_GroupWay_init A.d_GroupWay_init
  b_GroupWay_init : Binds K A.d_GroupWay_init ["self", "first", "last", "g", "v", "bits"] []
  F_RestsWay_init : Fun K "__init__" "RestsWay.__init__" s_RestsWay_init A.f_RestsWay_init A.d_RestsWay_init
  b_RestsWay_init : Binds K A.d_RestsWay_init ["self", "r", "groups"] []
  F_Shrunk_init : Fun K "__init__" "Shrunk.__init__" s_Shrunk_init A.f_Shrunk_init A.d_Shrunk_init
  b_Shrunk_init : Binds K A.d_Shrunk_init ["self", "width", "numbers"] []
  F_PartWay_init : Fun K "__init__" "PartWay.__init__" s_PartWay_init A.f_PartWay_init A.d_PartWay_init
  b_PartWay_init : Binds K A.d_PartWay_init ["self", "kind", "shrunk", "guess"] []
  F_PairWay_init : Fun K "__init__" "PairWay.__init__" s_PairWay_init A.f_PairWay_init A.d_PairWay_init
  b_PairWay_init : Binds K A.d_PairWay_init ["self", "mode", "parts"] []
  l_BitWriter : Cls K A.c_BitWriter
  m_BitWriter : mg "BitWriter" = some (.ref A.c_BitWriter)
  k_BitWriter : Mk K A.c_BitWriter A.f_BitWriter_init
  n_BitWriter_written : NoAttr K A.c_BitWriter "written"
  n_BitWriter_size : NoAttr K A.c_BitWriter "size"
  l_Form : Cls K A.c_Form
  m_Form : mg "Form" = some (.ref A.c_Form)
  k_Form : Mk K A.c_Form A.f_Form_init
  n_Form_channels : NoAttr K A.c_Form "channels"
  n_Form_depth : NoAttr K A.c_Form "depth"
  n_Form_block : NoAttr K A.c_Form "block"
  n_Form_order : NoAttr K A.c_Form "order"
  n_Form_group : NoAttr K A.c_Form "group"
  n_Form_spare : NoAttr K A.c_Form "spare"
  l_Guess : Cls K A.c_Guess
  m_Guess : mg "Guess" = some (.ref A.c_Guess)
  k_Guess : Mk K A.c_Guess A.f_Guess_init
  n_Guess_factors : NoAttr K A.c_Guess "factors"
  n_Guess_shift : NoAttr K A.c_Guess "shift"
  l_GroupWay : Cls K A.c_GroupWay
  m_GroupWay : mg "GroupWay" = some (.ref A.c_GroupWay)
  k_GroupWay : Mk K A.c_GroupWay A.f_GroupWay_init
  n_GroupWay_first : NoAttr K A.c_GroupWay "first"
  n_GroupWay_last : NoAttr K A.c_GroupWay "last"
  n_GroupWay_g : NoAttr K A.c_GroupWay "g"
  n_GroupWay_v : NoAttr K A.c_GroupWay "v"
  n_GroupWay_bits : NoAttr K A.c_GroupWay "bits"
  l_RestsWay : Cls K A.c_RestsWay
  m_RestsWay : mg "RestsWay" = some (.ref A.c_RestsWay)
  k_RestsWay : Mk K A.c_RestsWay A.f_RestsWay_init
  n_RestsWay_r : NoAttr K A.c_RestsWay "r"
  n_RestsWay_groups : NoAttr K A.c_RestsWay "groups"
  n_RestsWay_bits : NoAttr K A.c_RestsWay "bits"
  l_Shrunk : Cls K A.c_Shrunk
  m_Shrunk : mg "Shrunk" = some (.ref A.c_Shrunk)
  k_Shrunk : Mk K A.c_Shrunk A.f_Shrunk_init
  n_Shrunk_z : NoAttr K A.c_Shrunk "z"
  n_Shrunk_width : NoAttr K A.c_Shrunk "width"
  n_Shrunk_numbers : NoAttr K A.c_Shrunk "numbers"
  l_PartWay : Cls K A.c_PartWay
  m_PartWay : mg "PartWay" = some (.ref A.c_PartWay)
  k_PartWay : Mk K A.c_PartWay A.f_PartWay_init
  n_PartWay_kind : NoAttr K A.c_PartWay "kind"
  n_PartWay_shrunk : NoAttr K A.c_PartWay "shrunk"
  n_PartWay_guess : NoAttr K A.c_PartWay "guess"
  n_PartWay_rests_way : NoAttr K A.c_PartWay "rests_way"
  n_PartWay_bits : NoAttr K A.c_PartWay "bits"
  l_PairWay : Cls K A.c_PairWay
  m_PairWay : mg "PairWay" = some (.ref A.c_PairWay)
  k_PairWay : Mk K A.c_PairWay A.f_PairWay_init
  n_PairWay_mode : NoAttr K A.c_PairWay "mode"
  n_PairWay_parts : NoAttr K A.c_PairWay "parts"
  n_PairWay_bits : NoAttr K A.c_PairWay "bits"
  g_FACTOR_WIDTH : mg "FACTOR_WIDTH" = some (.int 12 A.t_FACTOR_WIDTH)
  g_GREATEST_SHIFT : mg "GREATEST_SHIFT" = some (.int 15 A.t_GREATEST_SHIFT)
  g_GREATEST_SPLIT : mg "GREATEST_SPLIT" = some (.int 6 A.t_GREATEST_SPLIT)
  g_PLAIN : mg "PLAIN" = some (.int 31 A.t_PLAIN)
  g_SAME : mg "SAME" = some (.int 0 A.t_SAME)
  g_PLAIN_KIND : mg "PLAIN_KIND" = some (.int 1 A.t_PLAIN_KIND)
  g_FIRST_FIXED : mg "FIRST_FIXED" = some (.int 2 A.t_FIRST_FIXED)
  g_FIRST_LINEAR : mg "FIRST_LINEAR" = some (.int 7 A.t_FIRST_LINEAR)
  g_MARK_frames : mg "MARK" = some (.int 19287 A.t_MARK_frames)
  g_FRAME_NUMBERS : mg "FRAME_NUMBERS" = some (.int 1048576 A.t_FRAME_NUMBERS)
  g_RANGES : mg "RANGES" = some (.ref A.a_RANGES)
  q_RANGES : ∀ H, SqT K H A.a_RANGES [V.ref A.a_RANGES_0, V.ref A.a_RANGES_1, V.ref A.a_RANGES_2, V.ref A.a_RANGES_3, V.ref A.a_RANGES_4, V.ref A.a_RANGES_5]
  q_RANGES_0 : ∀ H, SqT K H A.a_RANGES_0 [V.int (1), V.int (4)]
  q_RANGES_1 : ∀ H, SqT K H A.a_RANGES_1 [V.int (4), V.int (24)]
  q_RANGES_2 : ∀ H, SqT K H A.a_RANGES_2 [V.int (16), V.int (256)]
  q_RANGES_3 : ∀ H, SqT K H A.a_RANGES_3 [V.int (0), V.int (4)]
  q_RANGES_4 : ∀ H, SqT K H A.a_RANGES_4 [V.int (1), V.int (8)]
  q_RANGES_5 : ∀ H, SqT K H A.a_RANGES_5 [V.int (0), V.int (4)]
  g_FIXED : mg "FIXED" = some (.ref A.a_FIXED)
  q_FIXED : ∀ H, SqT K H A.a_FIXED [V.ref A.a_FIXED_0, V.ref A.a_FIXED_1, V.ref A.a_FIXED_2, V.ref A.a_FIXED_3, V.ref A.a_FIXED_4]
  q_FIXED_0 : ∀ H, SqT K H A.a_FIXED_0 []
  q_FIXED_1 : ∀ H, SqT K H A.a_FIXED_1 [V.int (1)]
  q_FIXED_2 : ∀ H, SqT K H A.a_FIXED_2 [V.int (2), V.int (-1)]
  q_FIXED_3 : ∀ H, SqT K H A.a_FIXED_3 [V.int (3), V.int (-3), V.int (1)]
  q_FIXED_4 : ∀ H, SqT K H A.a_FIXED_4 [V.int (4), V.int (-6), V.int (4), V.int (-1)]
  z_abs : mg "abs" = none
  z_all : mg "all" = none
  z_enumerate : mg "enumerate" = none
  z_len : mg "len" = none
  z_list : mg "list" = none
  z_max : mg "max" = none
  z_min : mg "min" = none
  z_range : mg "range" = none
  z_sum : mg "sum" = none
  z_zip : mg "zip" = none
  entry : ∀ (s : Shared) (us : List Value), us.length = (["k", "form", "numbers"] : List Str).length → BindsTo s A.d_frame ⟨us, []⟩ ((["k", "form", "numbers"] : List Str).zip us)
set_option maxHeartbeats 0 in
theorem txt_mk {K : PySem.W.Frag} {h : Heap} {mg : Str → Option Value} (X : K.In h) (G : h.Ns mainGlobals mg)
    {c_PairWay : Addr}
    {c_PartWay : Addr}
    {c_Shrunk : Addr}
    {c_RestsWay : Addr}
    {c_GroupWay : Addr}
    {c_Guess : Addr}
    {c_Form : Addr}
    {c_BitWriter : Addr}
    {f_crc16 : Addr} {od_crc16 an_crc16 : Option Addr} {sl_crc16 : Array (Option Value)} {oc_crc16 kV_crc16 dc_crc16 pm_crc16 cd_crc16 ct_crc16 : Value}
    {f_is_form : Addr} {od_is_form an_is_form : Option Addr} {sl_is_form : Array (Option Value)} {oc_is_form kV_is_form dc_is_form pm_is_form cd_is_form ct_is_form : Value}
    {f_fits : Addr} {od_fits an_fits : Option Addr} {sl_fits : Array (Option Value)} {oc_fits kV_fits dc_fits pm_fits cd_fits ct_fits : Value}
    {f_all_fit : Addr} {od_all_fit an_all_fit : Option Addr} {sl_all_fit : Array (Option Value)} {oc_all_fit kV_all_fit dc_all_fit pm_all_fit cd_all_fit ct_all_fit : Value}
    {f_fixed_guess : Addr} {od_fixed_guess an_fixed_guess : Option Addr} {sl_fixed_guess : Array (Option Value)} {oc_fixed_guess kV_fixed_guess dc_fixed_guess pm_fixed_guess cd_fixed_guess ct_fixed_guess : Value}
    {f_linear_guess : Addr} {od_linear_guess an_linear_guess : Option Addr} {sl_linear_guess : Array (Option Value)} {oc_linear_guess kV_linear_guess dc_linear_guess pm_linear_guess cd_linear_guess ct_linear_guess : Value}
    {f_normal_row : Addr} {od_normal_row an_normal_row : Option Addr} {sl_normal_row : Array (Option Value)} {oc_normal_row kV_normal_row dc_normal_row pm_normal_row cd_normal_row ct_normal_row : Value}
    {f_lagged_product : Addr} {od_lagged_product an_lagged_product : Option Addr} {sl_lagged_product : Array (Option Value)} {oc_lagged_product kV_lagged_product dc_lagged_product pm_lagged_product cd_lagged_product ct_lagged_product : Value}
    {f_solved_guesses : Addr} {od_solved_guesses an_solved_guesses : Option Addr} {sl_solved_guesses : Array (Option Value)} {oc_solved_guesses kV_solved_guesses dc_solved_guesses pm_solved_guesses cd_solved_guesses ct_solved_guesses : Value}
    {f_cleared : Addr} {od_cleared an_cleared : Option Addr} {sl_cleared : Array (Option Value)} {oc_cleared kV_cleared dc_cleared pm_cleared cd_cleared ct_cleared : Value}
    {f_nearest : Addr} {od_nearest an_nearest : Option Addr} {sl_nearest : Array (Option Value)} {oc_nearest kV_nearest dc_nearest pm_nearest cd_nearest ct_nearest : Value}
    {f_folded_rest : Addr} {od_folded_rest an_folded_rest : Option Addr} {sl_folded_rest : Array (Option Value)} {oc_folded_rest kV_folded_rest dc_folded_rest pm_folded_rest cd_folded_rest ct_folded_rest : Value}
    {f_can_split : Addr} {od_can_split an_can_split : Option Addr} {sl_can_split : Array (Option Value)} {oc_can_split kV_can_split dc_can_split pm_can_split cd_can_split ct_can_split : Value}
    {f_least_rests : Addr} {od_least_rests an_least_rests : Option Addr} {sl_least_rests : Array (Option Value)} {oc_least_rests kV_least_rests dc_least_rests pm_least_rests cd_least_rests ct_least_rests : Value}
    {f_shifted_sums : Addr} {od_shifted_sums an_shifted_sums : Option Addr} {sl_shifted_sums : Array (Option Value)} {oc_shifted_sums kV_shifted_sums dc_shifted_sums pm_shifted_sums cd_shifted_sums ct_shifted_sums : Value}
    {f_running_sums : Addr} {od_running_sums an_running_sums : Option Addr} {sl_running_sums : Array (Option Value)} {oc_running_sums kV_running_sums dc_running_sums pm_running_sums cd_running_sums ct_running_sums : Value}
    {f_split_groups : Addr} {od_split_groups an_split_groups : Option Addr} {sl_split_groups : Array (Option Value)} {oc_split_groups kV_split_groups dc_split_groups pm_split_groups cd_split_groups ct_split_groups : Value}
    {f_least_group : Addr} {od_least_group an_least_group : Option Addr} {sl_least_group : Array (Option Value)} {oc_least_group kV_least_group dc_least_group pm_least_group cd_least_group ct_least_group : Value}
    {f_write_rests : Addr} {od_write_rests an_write_rests : Option Addr} {sl_write_rests : Array (Option Value)} {oc_write_rests kV_write_rests dc_write_rests pm_write_rests cd_write_rests ct_write_rests : Value}
    {f_write_rest : Addr} {od_write_rest an_write_rest : Option Addr} {sl_write_rest : Array (Option Value)} {oc_write_rest kV_write_rest dc_write_rest pm_write_rest cd_write_rest ct_write_rest : Value}
    {f_order_of_kind : Addr} {od_order_of_kind an_order_of_kind : Option Addr} {sl_order_of_kind : Array (Option Value)} {oc_order_of_kind kV_order_of_kind dc_order_of_kind pm_order_of_kind cd_order_of_kind ct_order_of_kind : Value}
    {f_shared_zeros : Addr} {od_shared_zeros an_shared_zeros : Option Addr} {sl_shared_zeros : Array (Option Value)} {oc_shared_zeros kV_shared_zeros dc_shared_zeros pm_shared_zeros cd_shared_zeros ct_shared_zeros : Value}
    {f_least_part : Addr} {od_least_part an_least_part : Option Addr} {sl_least_part : Array (Option Value)} {oc_least_part kV_least_part dc_least_part pm_least_part cd_least_part ct_least_part : Value}
    {f_plain_way : Addr} {od_plain_way an_plain_way : Option Addr} {sl_plain_way : Array (Option Value)} {oc_plain_way kV_plain_way dc_plain_way pm_plain_way cd_plain_way ct_plain_way : Value}
    {f_guessed_way : Addr} {od_guessed_way an_guessed_way : Option Addr} {sl_guessed_way : Array (Option Value)} {oc_guessed_way kV_guessed_way dc_guessed_way pm_guessed_way cd_guessed_way ct_guessed_way : Value}
    {f_chosen_guess : Addr} {od_chosen_guess an_chosen_guess : Option Addr} {sl_chosen_guess : Array (Option Value)} {oc_chosen_guess kV_chosen_guess dc_chosen_guess pm_chosen_guess cd_chosen_guess ct_chosen_guess : Value}
    {f_write_part : Addr} {od_write_part an_write_part : Option Addr} {sl_write_part : Array (Option Value)} {oc_write_part kV_write_part dc_write_part pm_write_part cd_write_part ct_write_part : Value}
    {f_write_zeros : Addr} {od_write_zeros an_write_zeros : Option Addr} {sl_write_zeros : Array (Option Value)} {oc_write_zeros kV_write_zeros dc_write_zeros pm_write_zeros cd_write_zeros ct_write_zeros : Value}
    {f_write_plainly : Addr} {od_write_plainly an_write_plainly : Option Addr} {sl_write_plainly : Array (Option Value)} {oc_write_plainly kV_write_plainly dc_write_plainly pm_write_plainly cd_write_plainly ct_write_plainly : Value}
    {f_least_pair : Addr} {od_least_pair an_least_pair : Option Addr} {sl_least_pair : Array (Option Value)} {oc_least_pair kV_least_pair dc_least_pair pm_least_pair cd_least_pair ct_least_pair : Value}
    {f_least_pairs : Addr} {od_least_pairs an_least_pairs : Option Addr} {sl_least_pairs : Array (Option Value)} {oc_least_pairs kV_least_pairs dc_least_pairs pm_least_pairs cd_least_pairs ct_least_pairs : Value}
    {f_write_frame : Addr} {od_write_frame an_write_frame : Option Addr} {sl_write_frame : Array (Option Value)} {oc_write_frame kV_write_frame dc_write_frame pm_write_frame cd_write_frame ct_write_frame : Value}
    {f_counted : Addr} {od_counted an_counted : Option Addr} {sl_counted : Array (Option Value)} {oc_counted kV_counted dc_counted pm_counted cd_counted ct_counted : Value}
    {f_frame : Addr} {od_frame an_frame : Option Addr} {sl_frame : Array (Option Value)} {oc_frame kV_frame dc_frame pm_frame cd_frame ct_frame : Value}
    {f_BitWriter_init : Addr} {od_BitWriter_init an_BitWriter_init : Option Addr} {sl_BitWriter_init : Array (Option Value)} {oc_BitWriter_init kV_BitWriter_init dc_BitWriter_init pm_BitWriter_init cd_BitWriter_init ct_BitWriter_init : Value}
    {f_BitWriter_unsigned : Addr} {od_BitWriter_unsigned an_BitWriter_unsigned : Option Addr} {sl_BitWriter_unsigned : Array (Option Value)} {oc_BitWriter_unsigned kV_BitWriter_unsigned dc_BitWriter_unsigned pm_BitWriter_unsigned cd_BitWriter_unsigned ct_BitWriter_unsigned : Value}
    {f_BitWriter_signed : Addr} {od_BitWriter_signed an_BitWriter_signed : Option Addr} {sl_BitWriter_signed : Array (Option Value)} {oc_BitWriter_signed kV_BitWriter_signed dc_BitWriter_signed pm_BitWriter_signed cd_BitWriter_signed ct_BitWriter_signed : Value}
    {f_BitWriter_run : Addr} {od_BitWriter_run an_BitWriter_run : Option Addr} {sl_BitWriter_run : Array (Option Value)} {oc_BitWriter_run kV_BitWriter_run dc_BitWriter_run pm_BitWriter_run cd_BitWriter_run ct_BitWriter_run : Value}
    {f_BitWriter_whole_bytes : Addr} {od_BitWriter_whole_bytes an_BitWriter_whole_bytes : Option Addr} {sl_BitWriter_whole_bytes : Array (Option Value)} {oc_BitWriter_whole_bytes kV_BitWriter_whole_bytes dc_BitWriter_whole_bytes pm_BitWriter_whole_bytes cd_BitWriter_whole_bytes ct_BitWriter_whole_bytes : Value}
    {f_Form_init : Addr} {od_Form_init an_Form_init : Option Addr} {sl_Form_init : Array (Option Value)} {oc_Form_init kV_Form_init dc_Form_init pm_Form_init cd_Form_init ct_Form_init : Value}
    {f_Guess_init : Addr} {od_Guess_init an_Guess_init : Option Addr} {sl_Guess_init : Array (Option Value)} {oc_Guess_init kV_Guess_init dc_Guess_init pm_Guess_init cd_Guess_init ct_Guess_init : Value}
    {f_Guess_at : Addr} {od_Guess_at an_Guess_at : Option Addr} {sl_Guess_at : Array (Option Value)} {oc_Guess_at kV_Guess_at dc_Guess_at pm_Guess_at cd_Guess_at ct_Guess_at : Value}
    {f_Guess_all_rests : Addr} {od_Guess_all_rests an_Guess_all_rests : Option Addr} {sl_Guess_all_rests : Array (Option Value)} {oc_Guess_all_rests kV_Guess_all_rests dc_Guess_all_rests pm_Guess_all_rests cd_Guess_all_rests ct_Guess_all_rests : Value}
    {f_GroupWay_init : Addr} {od_GroupWay_init an_GroupWay_init : Option Addr} {sl_GroupWay_init : Array (Option Value)} {oc_GroupWay_init kV_GroupWay_init dc_GroupWay_init pm_GroupWay_init cd_GroupWay_init ct_GroupWay_init : Value}
    {f_RestsWay_init : Addr} {od_RestsWay_init an_RestsWay_init : Option Addr} {sl_RestsWay_init : Array (Option Value)} {oc_RestsWay_init kV_RestsWay_init dc_RestsWay_init pm_RestsWay_init cd_RestsWay_init ct_RestsWay_init : Value}
    {f_Shrunk_init : Addr} {od_Shrunk_init an_Shrunk_init : Option Addr} {sl_Shrunk_init : Array (Option Value)} {oc_Shrunk_init kV_Shrunk_init dc_Shrunk_init pm_Shrunk_init cd_Shrunk_init ct_Shrunk_init : Value}
    {f_PartWay_init : Addr} {od_PartWay_init an_PartWay_init : Option Addr} {sl_PartWay_init : Array (Option Value)} {oc_PartWay_init kV_PartWay_init dc_PartWay_init pm_PartWay_init cd_PartWay_init ct_PartWay_init : Value}
    {f_PairWay_init : Addr} {od_PairWay_init an_PairWay_init : Option Addr} {sl_PairWay_init : Array (Option Value)} {oc_PairWay_init kV_PairWay_init dc_PairWay_init pm_PairWay_init cd_PairWay_init ct_PairWay_init : Value}
    {t_FACTOR_WIDTH : Tok}
    {t_GREATEST_SHIFT : Tok}
    {t_GREATEST_SPLIT : Tok}
    {t_PLAIN : Tok}
    {t_SAME : Tok}
    {t_PLAIN_KIND : Tok}
    {t_FIRST_FIXED : Tok}
    {t_FIRST_LINEAR : Tok}
    {t_MARK_frames : Tok}
    {t_FRAME_NUMBERS : Tok}
    {a_RANGES a_RANGES_0 a_RANGES_1 a_RANGES_2 a_RANGES_3 a_RANGES_4 a_RANGES_5 : Addr} {dT_RANGES : Option Addr} {nT_RANGES : Nat} {sT_RANGES : Array (Option Value)}
    {dT_RANGES_0 : Option Addr} {nT_RANGES_0 : Nat} {sT_RANGES_0 : Array (Option Value)}
    {tk_RANGES_0_0 tk_RANGES_0_1 : Tok}
    {dT_RANGES_1 : Option Addr} {nT_RANGES_1 : Nat} {sT_RANGES_1 : Array (Option Value)}
    {tk_RANGES_1_0 tk_RANGES_1_1 : Tok}
    {dT_RANGES_2 : Option Addr} {nT_RANGES_2 : Nat} {sT_RANGES_2 : Array (Option Value)}
    {tk_RANGES_2_0 tk_RANGES_2_1 : Tok}
    {dT_RANGES_3 : Option Addr} {nT_RANGES_3 : Nat} {sT_RANGES_3 : Array (Option Value)}
    {tk_RANGES_3_0 tk_RANGES_3_1 : Tok}
    {dT_RANGES_4 : Option Addr} {nT_RANGES_4 : Nat} {sT_RANGES_4 : Array (Option Value)}
    {tk_RANGES_4_0 tk_RANGES_4_1 : Tok}
    {dT_RANGES_5 : Option Addr} {nT_RANGES_5 : Nat} {sT_RANGES_5 : Array (Option Value)}
    {tk_RANGES_5_0 tk_RANGES_5_1 : Tok}
    {a_FIXED a_FIXED_0 a_FIXED_1 a_FIXED_2 a_FIXED_3 a_FIXED_4 : Addr} {dT_FIXED : Option Addr} {nT_FIXED : Nat} {sT_FIXED : Array (Option Value)}
    {dT_FIXED_0 : Option Addr} {nT_FIXED_0 : Nat} {sT_FIXED_0 : Array (Option Value)}
    {dT_FIXED_1 : Option Addr} {nT_FIXED_1 : Nat} {sT_FIXED_1 : Array (Option Value)}
    {tk_FIXED_1_0 : Tok}
    {dT_FIXED_2 : Option Addr} {nT_FIXED_2 : Nat} {sT_FIXED_2 : Array (Option Value)}
    {tk_FIXED_2_0 tk_FIXED_2_1 : Tok}
    {dT_FIXED_3 : Option Addr} {nT_FIXED_3 : Nat} {sT_FIXED_3 : Array (Option Value)}
    {tk_FIXED_3_0 tk_FIXED_3_1 tk_FIXED_3_2 : Tok}
    {dT_FIXED_4 : Option Addr} {nT_FIXED_4 : Nat} {sT_FIXED_4 : Array (Option Value)}
    {tk_FIXED_4_0 tk_FIXED_4_1 tk_FIXED_4_2 tk_FIXED_4_3 : Tok}
    (a_BitWriter : PySem.W.nsIn K mainGlobals "BitWriter" = some (some (.ref c_BitWriter)))
    (a_Form : PySem.W.nsIn K mainGlobals "Form" = some (some (.ref c_Form)))
    (a_Guess : PySem.W.nsIn K mainGlobals "Guess" = some (some (.ref c_Guess)))
    (a_GroupWay : PySem.W.nsIn K mainGlobals "GroupWay" = some (some (.ref c_GroupWay)))
    (a_RestsWay : PySem.W.nsIn K mainGlobals "RestsWay" = some (some (.ref c_RestsWay)))
    (a_Shrunk : PySem.W.nsIn K mainGlobals "Shrunk" = some (some (.ref c_Shrunk)))
    (a_PartWay : PySem.W.nsIn K mainGlobals "PartWay" = some (some (.ref c_PartWay)))
    (a_PairWay : PySem.W.nsIn K mainGlobals "PairWay" = some (some (.ref c_PairWay)))
    (a_crc16 : PySem.W.nsIn K mainGlobals "crc16" = some (some (.ref f_crc16)))
    (l_crc16 : K.lookup f_crc16 = some ⟨oc_crc16, od_crc16, .func (PySem.W.fnOf "crc16" "crc16" (defArgs s_crc16) (defBody s_crc16) (defScope s_crc16) .none kV_crc16 dc_crc16 pm_crc16 an_crc16 cd_crc16 ct_crc16), sl_crc16⟩)
    (c_crc16 : PySem.W.codeIn K cd_crc16 "crc16" = true)
    (k_crc16 : PySem.W.keepIn K (.ref f_crc16) = true)
    (a_is_form : PySem.W.nsIn K mainGlobals "is_form" = some (some (.ref f_is_form)))
    (l_is_form : K.lookup f_is_form = some ⟨oc_is_form, od_is_form, .func (PySem.W.fnOf "is_form" "is_form" (defArgs s_is_form) (defBody s_is_form) (defScope s_is_form) .none kV_is_form dc_is_form pm_is_form an_is_form cd_is_form ct_is_form), sl_is_form⟩)
    (c_is_form : PySem.W.codeIn K cd_is_form "is_form" = true)
    (k_is_form : PySem.W.keepIn K (.ref f_is_form) = true)
    (a_fits : PySem.W.nsIn K mainGlobals "fits" = some (some (.ref f_fits)))
    (l_fits : K.lookup f_fits = some ⟨oc_fits, od_fits, .func (PySem.W.fnOf "fits" "fits" (defArgs s_fits) (defBody s_fits) (defScope s_fits) .none kV_fits dc_fits pm_fits an_fits cd_fits ct_fits), sl_fits⟩)
    (c_fits : PySem.W.codeIn K cd_fits "fits" = true)
    (k_fits : PySem.W.keepIn K (.ref f_fits) = true)
    (a_all_fit : PySem.W.nsIn K mainGlobals "all_fit" = some (some (.ref f_all_fit)))
    (l_all_fit : K.lookup f_all_fit = some ⟨oc_all_fit, od_all_fit, .func (PySem.W.fnOf "all_fit" "all_fit" (defArgs s_all_fit) (defBody s_all_fit) (defScope s_all_fit) .none kV_all_fit dc_all_fit pm_all_fit an_all_fit cd_all_fit ct_all_fit), sl_all_fit⟩)
    (c_all_fit : PySem.W.codeIn K cd_all_fit "all_fit" = true)
    (k_all_fit : PySem.W.keepIn K (.ref f_all_fit) = true)
    (a_fixed_guess : PySem.W.nsIn K mainGlobals "fixed_guess" = some (some (.ref f_fixed_guess)))
    (l_fixed_guess : K.lookup f_fixed_guess = some ⟨oc_fixed_guess, od_fixed_guess, .func (PySem.W.fnOf "fixed_guess" "fixed_guess" (defArgs s_fixed_guess) (defBody s_fixed_guess) (defScope s_fixed_guess) .none kV_fixed_guess dc_fixed_guess pm_fixed_guess an_fixed_guess cd_fixed_guess ct_fixed_guess), sl_fixed_guess⟩)
    (c_fixed_guess : PySem.W.codeIn K cd_fixed_guess "fixed_guess" = true)
    (k_fixed_guess : PySem.W.keepIn K (.ref f_fixed_guess) = true)
    (a_linear_guess : PySem.W.nsIn K mainGlobals "linear_guess" = some (some (.ref f_linear_guess)))
    (l_linear_guess : K.lookup f_linear_guess = some ⟨oc_linear_guess, od_linear_guess, .func (PySem.W.fnOf "linear_guess" "linear_guess" (defArgs s_linear_guess) (defBody s_linear_guess) (defScope s_linear_guess) .none kV_linear_guess dc_linear_guess pm_linear_guess an_linear_guess cd_linear_guess ct_linear_guess), sl_linear_guess⟩)
    (c_linear_guess : PySem.W.codeIn K cd_linear_guess "linear_guess" = true)
    (k_linear_guess : PySem.W.keepIn K (.ref f_linear_guess) = true)
    (a_normal_row : PySem.W.nsIn K mainGlobals "normal_row" = some (some (.ref f_normal_row)))
    (l_normal_row : K.lookup f_normal_row = some ⟨oc_normal_row, od_normal_row, .func (PySem.W.fnOf "normal_row" "normal_row" (defArgs s_normal_row) (defBody s_normal_row) (defScope s_normal_row) .none kV_normal_row dc_normal_row pm_normal_row an_normal_row cd_normal_row ct_normal_row), sl_normal_row⟩)
    (c_normal_row : PySem.W.codeIn K cd_normal_row "normal_row" = true)
    (k_normal_row : PySem.W.keepIn K (.ref f_normal_row) = true)
    (a_lagged_product : PySem.W.nsIn K mainGlobals "lagged_product" = some (some (.ref f_lagged_product)))
    (l_lagged_product : K.lookup f_lagged_product = some ⟨oc_lagged_product, od_lagged_product, .func (PySem.W.fnOf "lagged_product" "lagged_product" (defArgs s_lagged_product) (defBody s_lagged_product) (defScope s_lagged_product) .none kV_lagged_product dc_lagged_product pm_lagged_product an_lagged_product cd_lagged_product ct_lagged_product), sl_lagged_product⟩)
    (c_lagged_product : PySem.W.codeIn K cd_lagged_product "lagged_product" = true)
    (k_lagged_product : PySem.W.keepIn K (.ref f_lagged_product) = true)
    (a_solved_guesses : PySem.W.nsIn K mainGlobals "solved" = some (some (.ref f_solved_guesses)))
    (l_solved_guesses : K.lookup f_solved_guesses = some ⟨oc_solved_guesses, od_solved_guesses, .func (PySem.W.fnOf "solved" "solved" (defArgs s_solved_guesses) (defBody s_solved_guesses) (defScope s_solved_guesses) .none kV_solved_guesses dc_solved_guesses pm_solved_guesses an_solved_guesses cd_solved_guesses ct_solved_guesses), sl_solved_guesses⟩)
    (c_solved_guesses : PySem.W.codeIn K cd_solved_guesses "solved" = true)
    (k_solved_guesses : PySem.W.keepIn K (.ref f_solved_guesses) = true)
    (a_cleared : PySem.W.nsIn K mainGlobals "cleared" = some (some (.ref f_cleared)))
    (l_cleared : K.lookup f_cleared = some ⟨oc_cleared, od_cleared, .func (PySem.W.fnOf "cleared" "cleared" (defArgs s_cleared) (defBody s_cleared) (defScope s_cleared) .none kV_cleared dc_cleared pm_cleared an_cleared cd_cleared ct_cleared), sl_cleared⟩)
    (c_cleared : PySem.W.codeIn K cd_cleared "cleared" = true)
    (k_cleared : PySem.W.keepIn K (.ref f_cleared) = true)
    (a_nearest : PySem.W.nsIn K mainGlobals "nearest" = some (some (.ref f_nearest)))
    (l_nearest : K.lookup f_nearest = some ⟨oc_nearest, od_nearest, .func (PySem.W.fnOf "nearest" "nearest" (defArgs s_nearest) (defBody s_nearest) (defScope s_nearest) .none kV_nearest dc_nearest pm_nearest an_nearest cd_nearest ct_nearest), sl_nearest⟩)
    (c_nearest : PySem.W.codeIn K cd_nearest "nearest" = true)
    (k_nearest : PySem.W.keepIn K (.ref f_nearest) = true)
    (a_folded_rest : PySem.W.nsIn K mainGlobals "folded_rest" = some (some (.ref f_folded_rest)))
    (l_folded_rest : K.lookup f_folded_rest = some ⟨oc_folded_rest, od_folded_rest, .func (PySem.W.fnOf "folded_rest" "folded_rest" (defArgs s_folded_rest) (defBody s_folded_rest) (defScope s_folded_rest) .none kV_folded_rest dc_folded_rest pm_folded_rest an_folded_rest cd_folded_rest ct_folded_rest), sl_folded_rest⟩)
    (c_folded_rest : PySem.W.codeIn K cd_folded_rest "folded_rest" = true)
    (k_folded_rest : PySem.W.keepIn K (.ref f_folded_rest) = true)
    (a_can_split : PySem.W.nsIn K mainGlobals "can_split" = some (some (.ref f_can_split)))
    (l_can_split : K.lookup f_can_split = some ⟨oc_can_split, od_can_split, .func (PySem.W.fnOf "can_split" "can_split" (defArgs s_can_split) (defBody s_can_split) (defScope s_can_split) .none kV_can_split dc_can_split pm_can_split an_can_split cd_can_split ct_can_split), sl_can_split⟩)
    (c_can_split : PySem.W.codeIn K cd_can_split "can_split" = true)
    (k_can_split : PySem.W.keepIn K (.ref f_can_split) = true)
    (a_least_rests : PySem.W.nsIn K mainGlobals "least_rests" = some (some (.ref f_least_rests)))
    (l_least_rests : K.lookup f_least_rests = some ⟨oc_least_rests, od_least_rests, .func (PySem.W.fnOf "least_rests" "least_rests" (defArgs s_least_rests) (defBody s_least_rests) (defScope s_least_rests) .none kV_least_rests dc_least_rests pm_least_rests an_least_rests cd_least_rests ct_least_rests), sl_least_rests⟩)
    (c_least_rests : PySem.W.codeIn K cd_least_rests "least_rests" = true)
    (k_least_rests : PySem.W.keepIn K (.ref f_least_rests) = true)
    (a_shifted_sums : PySem.W.nsIn K mainGlobals "shifted_sums" = some (some (.ref f_shifted_sums)))
    (l_shifted_sums : K.lookup f_shifted_sums = some ⟨oc_shifted_sums, od_shifted_sums, .func (PySem.W.fnOf "shifted_sums" "shifted_sums" (defArgs s_shifted_sums) (defBody s_shifted_sums) (defScope s_shifted_sums) .none kV_shifted_sums dc_shifted_sums pm_shifted_sums an_shifted_sums cd_shifted_sums ct_shifted_sums), sl_shifted_sums⟩)
    (c_shifted_sums : PySem.W.codeIn K cd_shifted_sums "shifted_sums" = true)
    (k_shifted_sums : PySem.W.keepIn K (.ref f_shifted_sums) = true)
    (a_running_sums : PySem.W.nsIn K mainGlobals "running_sums" = some (some (.ref f_running_sums)))
    (l_running_sums : K.lookup f_running_sums = some ⟨oc_running_sums, od_running_sums, .func (PySem.W.fnOf "running_sums" "running_sums" (defArgs s_running_sums) (defBody s_running_sums) (defScope s_running_sums) .none kV_running_sums dc_running_sums pm_running_sums an_running_sums cd_running_sums ct_running_sums), sl_running_sums⟩)
    (c_running_sums : PySem.W.codeIn K cd_running_sums "running_sums" = true)
    (k_running_sums : PySem.W.keepIn K (.ref f_running_sums) = true)
    (a_split_groups : PySem.W.nsIn K mainGlobals "split_groups" = some (some (.ref f_split_groups)))
    (l_split_groups : K.lookup f_split_groups = some ⟨oc_split_groups, od_split_groups, .func (PySem.W.fnOf "split_groups" "split_groups" (defArgs s_split_groups) (defBody s_split_groups) (defScope s_split_groups) .none kV_split_groups dc_split_groups pm_split_groups an_split_groups cd_split_groups ct_split_groups), sl_split_groups⟩)
    (c_split_groups : PySem.W.codeIn K cd_split_groups "split_groups" = true)
    (k_split_groups : PySem.W.keepIn K (.ref f_split_groups) = true)
    (a_least_group : PySem.W.nsIn K mainGlobals "least_group" = some (some (.ref f_least_group)))
    (l_least_group : K.lookup f_least_group = some ⟨oc_least_group, od_least_group, .func (PySem.W.fnOf "least_group" "least_group" (defArgs s_least_group) (defBody s_least_group) (defScope s_least_group) .none kV_least_group dc_least_group pm_least_group an_least_group cd_least_group ct_least_group), sl_least_group⟩)
    (c_least_group : PySem.W.codeIn K cd_least_group "least_group" = true)
    (k_least_group : PySem.W.keepIn K (.ref f_least_group) = true)
    (a_write_rests : PySem.W.nsIn K mainGlobals "write_rests" = some (some (.ref f_write_rests)))
    (l_write_rests : K.lookup f_write_rests = some ⟨oc_write_rests, od_write_rests, .func (PySem.W.fnOf "write_rests" "write_rests" (defArgs s_write_rests) (defBody s_write_rests) (defScope s_write_rests) .none kV_write_rests dc_write_rests pm_write_rests an_write_rests cd_write_rests ct_write_rests), sl_write_rests⟩)
    (c_write_rests : PySem.W.codeIn K cd_write_rests "write_rests" = true)
    (k_write_rests : PySem.W.keepIn K (.ref f_write_rests) = true)
    (a_write_rest : PySem.W.nsIn K mainGlobals "write_rest" = some (some (.ref f_write_rest)))
    (l_write_rest : K.lookup f_write_rest = some ⟨oc_write_rest, od_write_rest, .func (PySem.W.fnOf "write_rest" "write_rest" (defArgs s_write_rest) (defBody s_write_rest) (defScope s_write_rest) .none kV_write_rest dc_write_rest pm_write_rest an_write_rest cd_write_rest ct_write_rest), sl_write_rest⟩)
    (c_write_rest : PySem.W.codeIn K cd_write_rest "write_rest" = true)
    (k_write_rest : PySem.W.keepIn K (.ref f_write_rest) = true)
    (a_order_of_kind : PySem.W.nsIn K mainGlobals "order_of_kind" = some (some (.ref f_order_of_kind)))
    (l_order_of_kind : K.lookup f_order_of_kind = some ⟨oc_order_of_kind, od_order_of_kind, .func (PySem.W.fnOf "order_of_kind" "order_of_kind" (defArgs s_order_of_kind) (defBody s_order_of_kind) (defScope s_order_of_kind) .none kV_order_of_kind dc_order_of_kind pm_order_of_kind an_order_of_kind cd_order_of_kind ct_order_of_kind), sl_order_of_kind⟩)
    (c_order_of_kind : PySem.W.codeIn K cd_order_of_kind "order_of_kind" = true)
    (k_order_of_kind : PySem.W.keepIn K (.ref f_order_of_kind) = true)
    (a_shared_zeros : PySem.W.nsIn K mainGlobals "shared_zeros" = some (some (.ref f_shared_zeros)))
    (l_shared_zeros : K.lookup f_shared_zeros = some ⟨oc_shared_zeros, od_shared_zeros, .func (PySem.W.fnOf "shared_zeros" "shared_zeros" (defArgs s_shared_zeros) (defBody s_shared_zeros) (defScope s_shared_zeros) .none kV_shared_zeros dc_shared_zeros pm_shared_zeros an_shared_zeros cd_shared_zeros ct_shared_zeros), sl_shared_zeros⟩)
    (c_shared_zeros : PySem.W.codeIn K cd_shared_zeros "shared_zeros" = true)
    (k_shared_zeros : PySem.W.keepIn K (.ref f_shared_zeros) = true)
    (a_least_part : PySem.W.nsIn K mainGlobals "least_part" = some (some (.ref f_least_part)))
    (l_least_part : K.lookup f_least_part = some ⟨oc_least_part, od_least_part, .func (PySem.W.fnOf "least_part" "least_part" (defArgs s_least_part) (defBody s_least_part) (defScope s_least_part) .none kV_least_part dc_least_part pm_least_part an_least_part cd_least_part ct_least_part), sl_least_part⟩)
    (c_least_part : PySem.W.codeIn K cd_least_part "least_part" = true)
    (k_least_part : PySem.W.keepIn K (.ref f_least_part) = true)
    (a_plain_way : PySem.W.nsIn K mainGlobals "plain_way" = some (some (.ref f_plain_way)))
    (l_plain_way : K.lookup f_plain_way = some ⟨oc_plain_way, od_plain_way, .func (PySem.W.fnOf "plain_way" "plain_way" (defArgs s_plain_way) (defBody s_plain_way) (defScope s_plain_way) .none kV_plain_way dc_plain_way pm_plain_way an_plain_way cd_plain_way ct_plain_way), sl_plain_way⟩)
    (c_plain_way : PySem.W.codeIn K cd_plain_way "plain_way" = true)
    (k_plain_way : PySem.W.keepIn K (.ref f_plain_way) = true)
    (a_guessed_way : PySem.W.nsIn K mainGlobals "guessed_way" = some (some (.ref f_guessed_way)))
    (l_guessed_way : K.lookup f_guessed_way = some ⟨oc_guessed_way, od_guessed_way, .func (PySem.W.fnOf "guessed_way" "guessed_way" (defArgs s_guessed_way) (defBody s_guessed_way) (defScope s_guessed_way) .none kV_guessed_way dc_guessed_way pm_guessed_way an_guessed_way cd_guessed_way ct_guessed_way), sl_guessed_way⟩)
    (c_guessed_way : PySem.W.codeIn K cd_guessed_way "guessed_way" = true)
    (k_guessed_way : PySem.W.keepIn K (.ref f_guessed_way) = true)
    (a_chosen_guess : PySem.W.nsIn K mainGlobals "chosen_guess" = some (some (.ref f_chosen_guess)))
    (l_chosen_guess : K.lookup f_chosen_guess = some ⟨oc_chosen_guess, od_chosen_guess, .func (PySem.W.fnOf "chosen_guess" "chosen_guess" (defArgs s_chosen_guess) (defBody s_chosen_guess) (defScope s_chosen_guess) .none kV_chosen_guess dc_chosen_guess pm_chosen_guess an_chosen_guess cd_chosen_guess ct_chosen_guess), sl_chosen_guess⟩)
    (c_chosen_guess : PySem.W.codeIn K cd_chosen_guess "chosen_guess" = true)
    (k_chosen_guess : PySem.W.keepIn K (.ref f_chosen_guess) = true)
    (a_write_part : PySem.W.nsIn K mainGlobals "write_part" = some (some (.ref f_write_part)))
    (l_write_part : K.lookup f_write_part = some ⟨oc_write_part, od_write_part, .func (PySem.W.fnOf "write_part" "write_part" (defArgs s_write_part) (defBody s_write_part) (defScope s_write_part) .none kV_write_part dc_write_part pm_write_part an_write_part cd_write_part ct_write_part), sl_write_part⟩)
    (c_write_part : PySem.W.codeIn K cd_write_part "write_part" = true)
    (k_write_part : PySem.W.keepIn K (.ref f_write_part) = true)
    (a_write_zeros : PySem.W.nsIn K mainGlobals "write_zeros" = some (some (.ref f_write_zeros)))
    (l_write_zeros : K.lookup f_write_zeros = some ⟨oc_write_zeros, od_write_zeros, .func (PySem.W.fnOf "write_zeros" "write_zeros" (defArgs s_write_zeros) (defBody s_write_zeros) (defScope s_write_zeros) .none kV_write_zeros dc_write_zeros pm_write_zeros an_write_zeros cd_write_zeros ct_write_zeros), sl_write_zeros⟩)
    (c_write_zeros : PySem.W.codeIn K cd_write_zeros "write_zeros" = true)
    (k_write_zeros : PySem.W.keepIn K (.ref f_write_zeros) = true)
    (a_write_plainly : PySem.W.nsIn K mainGlobals "write_plainly" = some (some (.ref f_write_plainly)))
    (l_write_plainly : K.lookup f_write_plainly = some ⟨oc_write_plainly, od_write_plainly, .func (PySem.W.fnOf "write_plainly" "write_plainly" (defArgs s_write_plainly) (defBody s_write_plainly) (defScope s_write_plainly) .none kV_write_plainly dc_write_plainly pm_write_plainly an_write_plainly cd_write_plainly ct_write_plainly), sl_write_plainly⟩)
    (c_write_plainly : PySem.W.codeIn K cd_write_plainly "write_plainly" = true)
    (k_write_plainly : PySem.W.keepIn K (.ref f_write_plainly) = true)
    (a_least_pair : PySem.W.nsIn K mainGlobals "least_pair" = some (some (.ref f_least_pair)))
    (l_least_pair : K.lookup f_least_pair = some ⟨oc_least_pair, od_least_pair, .func (PySem.W.fnOf "least_pair" "least_pair" (defArgs s_least_pair) (defBody s_least_pair) (defScope s_least_pair) .none kV_least_pair dc_least_pair pm_least_pair an_least_pair cd_least_pair ct_least_pair), sl_least_pair⟩)
    (c_least_pair : PySem.W.codeIn K cd_least_pair "least_pair" = true)
    (k_least_pair : PySem.W.keepIn K (.ref f_least_pair) = true)
    (a_least_pairs : PySem.W.nsIn K mainGlobals "least_pairs" = some (some (.ref f_least_pairs)))
    (l_least_pairs : K.lookup f_least_pairs = some ⟨oc_least_pairs, od_least_pairs, .func (PySem.W.fnOf "least_pairs" "least_pairs" (defArgs s_least_pairs) (defBody s_least_pairs) (defScope s_least_pairs) .none kV_least_pairs dc_least_pairs pm_least_pairs an_least_pairs cd_least_pairs ct_least_pairs), sl_least_pairs⟩)
    (c_least_pairs : PySem.W.codeIn K cd_least_pairs "least_pairs" = true)
    (k_least_pairs : PySem.W.keepIn K (.ref f_least_pairs) = true)
    (a_write_frame : PySem.W.nsIn K mainGlobals "write_frame" = some (some (.ref f_write_frame)))
    (l_write_frame : K.lookup f_write_frame = some ⟨oc_write_frame, od_write_frame, .func (PySem.W.fnOf "write_frame" "write_frame" (defArgs s_write_frame) (defBody s_write_frame) (defScope s_write_frame) .none kV_write_frame dc_write_frame pm_write_frame an_write_frame cd_write_frame ct_write_frame), sl_write_frame⟩)
    (c_write_frame : PySem.W.codeIn K cd_write_frame "write_frame" = true)
    (k_write_frame : PySem.W.keepIn K (.ref f_write_frame) = true)
    (a_counted : PySem.W.nsIn K mainGlobals "counted" = some (some (.ref f_counted)))
    (l_counted : K.lookup f_counted = some ⟨oc_counted, od_counted, .func (PySem.W.fnOf "counted" "counted" (defArgs s_counted) (defBody s_counted) (defScope s_counted) .none kV_counted dc_counted pm_counted an_counted cd_counted ct_counted), sl_counted⟩)
    (c_counted : PySem.W.codeIn K cd_counted "counted" = true)
    (k_counted : PySem.W.keepIn K (.ref f_counted) = true)
    (a_frame : PySem.W.nsIn K mainGlobals "frame" = some (some (.ref f_frame)))
    (l_frame : K.lookup f_frame = some ⟨oc_frame, od_frame, .func (PySem.W.fnOf "frame" "frame" (defArgs s_frame) (defBody s_frame) (defScope s_frame) .none kV_frame dc_frame pm_frame an_frame cd_frame ct_frame), sl_frame⟩)
    (c_frame : PySem.W.codeIn K cd_frame "frame" = true)
    (k_frame : PySem.W.keepIn K (.ref f_frame) = true)
    (a_BitWriter_init : PySem.W.findIn K (.ref c_BitWriter) "__init__" = some (some (.ref f_BitWriter_init)))
    (i_BitWriter_init : PySem.W.isFn K (.ref f_BitWriter_init) = true)
    (l_BitWriter_init : K.lookup f_BitWriter_init = some ⟨oc_BitWriter_init, od_BitWriter_init, .func (PySem.W.fnOf "__init__" "BitWriter.__init__" (defArgs s_BitWriter_init) (defBody s_BitWriter_init) (defScope s_BitWriter_init) .none kV_BitWriter_init dc_BitWriter_init pm_BitWriter_init an_BitWriter_init cd_BitWriter_init ct_BitWriter_init), sl_BitWriter_init⟩)
    (c_BitWriter_init : PySem.W.codeIn K cd_BitWriter_init "BitWriter.__init__" = true)
    (k_BitWriter_init : PySem.W.keepIn K (.ref f_BitWriter_init) = true)
    (a_BitWriter_unsigned : PySem.W.findIn K (.ref c_BitWriter) "unsigned" = some (some (.ref f_BitWriter_unsigned)))
    (i_BitWriter_unsigned : PySem.W.isFn K (.ref f_BitWriter_unsigned) = true)
    (l_BitWriter_unsigned : K.lookup f_BitWriter_unsigned = some ⟨oc_BitWriter_unsigned, od_BitWriter_unsigned, .func (PySem.W.fnOf "unsigned" "BitWriter.unsigned" (defArgs s_BitWriter_unsigned) (defBody s_BitWriter_unsigned) (defScope s_BitWriter_unsigned) .none kV_BitWriter_unsigned dc_BitWriter_unsigned pm_BitWriter_unsigned an_BitWriter_unsigned cd_BitWriter_unsigned ct_BitWriter_unsigned), sl_BitWriter_unsigned⟩)
    (c_BitWriter_unsigned : PySem.W.codeIn K cd_BitWriter_unsigned "BitWriter.unsigned" = true)
    (k_BitWriter_unsigned : PySem.W.keepIn K (.ref f_BitWriter_unsigned) = true)
    (a_BitWriter_signed : PySem.W.findIn K (.ref c_BitWriter) "signed" = some (some (.ref f_BitWriter_signed)))
    (i_BitWriter_signed : PySem.W.isFn K (.ref f_BitWriter_signed) = true)
    (l_BitWriter_signed : K.lookup f_BitWriter_signed = some ⟨oc_BitWriter_signed, od_BitWriter_signed, .func (PySem.W.fnOf "signed" "BitWriter.signed" (defArgs s_BitWriter_signed) (defBody s_BitWriter_signed) (defScope s_BitWriter_signed) .none kV_BitWriter_signed dc_BitWriter_signed pm_BitWriter_signed an_BitWriter_signed cd_BitWriter_signed ct_BitWriter_signed), sl_BitWriter_signed⟩)
    (c_BitWriter_signed : PySem.W.codeIn K cd_BitWriter_signed "BitWriter.signed" = true)
    (k_BitWriter_signed : PySem.W.keepIn K (.ref f_BitWriter_signed) = true)
    (a_BitWriter_run : PySem.W.findIn K (.ref c_BitWriter) "run" = some (some (.ref f_BitWriter_run)))
    (i_BitWriter_run : PySem.W.isFn K (.ref f_BitWriter_run) = true)
    (l_BitWriter_run : K.lookup f_BitWriter_run = some ⟨oc_BitWriter_run, od_BitWriter_run, .func (PySem.W.fnOf "run" "BitWriter.run" (defArgs s_BitWriter_run) (defBody s_BitWriter_run) (defScope s_BitWriter_run) .none kV_BitWriter_run dc_BitWriter_run pm_BitWriter_run an_BitWriter_run cd_BitWriter_run ct_BitWriter_run), sl_BitWriter_run⟩)
    (c_BitWriter_run : PySem.W.codeIn K cd_BitWriter_run "BitWriter.run" = true)
    (k_BitWriter_run : PySem.W.keepIn K (.ref f_BitWriter_run) = true)
    (a_BitWriter_whole_bytes : PySem.W.findIn K (.ref c_BitWriter) "whole_bytes" = some (some (.ref f_BitWriter_whole_bytes)))
    (i_BitWriter_whole_bytes : PySem.W.isFn K (.ref f_BitWriter_whole_bytes) = true)
    (l_BitWriter_whole_bytes : K.lookup f_BitWriter_whole_bytes = some ⟨oc_BitWriter_whole_bytes, od_BitWriter_whole_bytes, .func (PySem.W.fnOf "whole_bytes" "BitWriter.whole_bytes" (defArgs s_BitWriter_whole_bytes) (defBody s_BitWriter_whole_bytes) (defScope s_BitWriter_whole_bytes) .none kV_BitWriter_whole_bytes dc_BitWriter_whole_bytes pm_BitWriter_whole_bytes an_BitWriter_whole_bytes cd_BitWriter_whole_bytes ct_BitWriter_whole_bytes), sl_BitWriter_whole_bytes⟩)
    (c_BitWriter_whole_bytes : PySem.W.codeIn K cd_BitWriter_whole_bytes "BitWriter.whole_bytes" = true)
    (k_BitWriter_whole_bytes : PySem.W.keepIn K (.ref f_BitWriter_whole_bytes) = true)
    (a_Form_init : PySem.W.findIn K (.ref c_Form) "__init__" = some (some (.ref f_Form_init)))
    (i_Form_init : PySem.W.isFn K (.ref f_Form_init) = true)
    (l_Form_init : K.lookup f_Form_init = some ⟨oc_Form_init, od_Form_init, .func (PySem.W.fnOf "__init__" "Form.__init__" (defArgs s_Form_init) (defBody s_Form_init) (defScope s_Form_init) .none kV_Form_init dc_Form_init pm_Form_init an_Form_init cd_Form_init ct_Form_init), sl_Form_init⟩)
    (c_Form_init : PySem.W.codeIn K cd_Form_init "Form.__init__" = true)
    (k_Form_init : PySem.W.keepIn K (.ref f_Form_init) = true)
    (a_Guess_init : PySem.W.findIn K (.ref c_Guess) "__init__" = some (some (.ref f_Guess_init)))
    (i_Guess_init : PySem.W.isFn K (.ref f_Guess_init) = true)
    (l_Guess_init : K.lookup f_Guess_init = some ⟨oc_Guess_init, od_Guess_init, .func (PySem.W.fnOf "__init__" "Guess.__init__" (defArgs s_Guess_init) (defBody s_Guess_init) (defScope s_Guess_init) .none kV_Guess_init dc_Guess_init pm_Guess_init an_Guess_init cd_Guess_init ct_Guess_init), sl_Guess_init⟩)
    (c_Guess_init : PySem.W.codeIn K cd_Guess_init "Guess.__init__" = true)
    (k_Guess_init : PySem.W.keepIn K (.ref f_Guess_init) = true)
    (a_Guess_at : PySem.W.findIn K (.ref c_Guess) "at" = some (some (.ref f_Guess_at)))
    (i_Guess_at : PySem.W.isFn K (.ref f_Guess_at) = true)
    (l_Guess_at : K.lookup f_Guess_at = some ⟨oc_Guess_at, od_Guess_at, .func (PySem.W.fnOf "at" "Guess.at" (defArgs s_Guess_at) (defBody s_Guess_at) (defScope s_Guess_at) .none kV_Guess_at dc_Guess_at pm_Guess_at an_Guess_at cd_Guess_at ct_Guess_at), sl_Guess_at⟩)
    (c_Guess_at : PySem.W.codeIn K cd_Guess_at "Guess.at" = true)
    (k_Guess_at : PySem.W.keepIn K (.ref f_Guess_at) = true)
    (a_Guess_all_rests : PySem.W.findIn K (.ref c_Guess) "all_rests" = some (some (.ref f_Guess_all_rests)))
    (i_Guess_all_rests : PySem.W.isFn K (.ref f_Guess_all_rests) = true)
    (l_Guess_all_rests : K.lookup f_Guess_all_rests = some ⟨oc_Guess_all_rests, od_Guess_all_rests, .func (PySem.W.fnOf "all_rests" "Guess.all_rests" (defArgs s_Guess_all_rests) (defBody s_Guess_all_rests) (defScope s_Guess_all_rests) .none kV_Guess_all_rests dc_Guess_all_rests pm_Guess_all_rests an_Guess_all_rests cd_Guess_all_rests ct_Guess_all_rests), sl_Guess_all_rests⟩)
    (c_Guess_all_rests : PySem.W.codeIn K cd_Guess_all_rests "Guess.all_rests" = true)
    (k_Guess_all_rests : PySem.W.keepIn K (.ref f_Guess_all_rests) = true)
    (a_GroupWay_init : PySem.W.findIn K (.ref c_GroupWay) "__init__" = some (some (.ref f_GroupWay_init)))
    (i_GroupWay_init : PySem.W.isFn K (.ref f_GroupWay_init) = true)
    (l_GroupWay_init : K.lookup f_GroupWay_init = some ⟨oc_GroupWay_init, od_GroupWay_init, .func (PySem.W.fnOf "__init__" "GroupWay.__init__" (defArgs s_GroupWay_init) (defBody s_GroupWay_init) (defScope s_GroupWay_init) .none kV_GroupWay_init dc_GroupWay_init pm_GroupWay_init an_GroupWay_init cd_GroupWay_init ct_GroupWay_init), sl_GroupWay_init⟩)
    (c_GroupWay_init : PySem.W.codeIn K cd_GroupWay_init "GroupWay.__init__" = true)
    (k_GroupWay_init : PySem.W.keepIn K (.ref f_GroupWay_init) = true)
    (a_RestsWay_init : PySem.W.findIn K (.ref c_RestsWay) "__init__" = some (some (.ref f_RestsWay_init)))
    (i_RestsWay_init : PySem.W.isFn K (.ref f_RestsWay_init) = true)
    (l_RestsWay_init : K.lookup f_RestsWay_init = some ⟨oc_RestsWay_init, od_RestsWay_init, .func (PySem.W.fnOf "__init__" "RestsWay.__init__" (defArgs s_RestsWay_init) (defBody s_RestsWay_init) (defScope s_RestsWay_init) .none kV_RestsWay_init dc_RestsWay_init pm_RestsWay_init an_RestsWay_init cd_RestsWay_init ct_RestsWay_init), sl_RestsWay_init⟩)
    (c_RestsWay_init : PySem.W.codeIn K cd_RestsWay_init "RestsWay.__init__" = true)
    (k_RestsWay_init : PySem.W.keepIn K (.ref f_RestsWay_init) = true)
    (a_Shrunk_init : PySem.W.findIn K (.ref c_Shrunk) "__init__" = some (some (.ref f_Shrunk_init)))
    (i_Shrunk_init : PySem.W.isFn K (.ref f_Shrunk_init) = true)
    (l_Shrunk_init : K.lookup f_Shrunk_init = some ⟨oc_Shrunk_init, od_Shrunk_init, .func (PySem.W.fnOf "__init__" "Shrunk.__init__" (defArgs s_Shrunk_init) (defBody s_Shrunk_init) (defScope s_Shrunk_init) .none kV_Shrunk_init dc_Shrunk_init pm_Shrunk_init an_Shrunk_init cd_Shrunk_init ct_Shrunk_init), sl_Shrunk_init⟩)
    (c_Shrunk_init : PySem.W.codeIn K cd_Shrunk_init "Shrunk.__init__" = true)
    (k_Shrunk_init : PySem.W.keepIn K (.ref f_Shrunk_init) = true)
    (a_PartWay_init : PySem.W.findIn K (.ref c_PartWay) "__init__" = some (some (.ref f_PartWay_init)))
    (i_PartWay_init : PySem.W.isFn K (.ref f_PartWay_init) = true)
    (l_PartWay_init : K.lookup f_PartWay_init = some ⟨oc_PartWay_init, od_PartWay_init, .func (PySem.W.fnOf "__init__" "PartWay.__init__" (defArgs s_PartWay_init) (defBody s_PartWay_init) (defScope s_PartWay_init) .none kV_PartWay_init dc_PartWay_init pm_PartWay_init an_PartWay_init cd_PartWay_init ct_PartWay_init), sl_PartWay_init⟩)
    (c_PartWay_init : PySem.W.codeIn K cd_PartWay_init "PartWay.__init__" = true)
    (k_PartWay_init : PySem.W.keepIn K (.ref f_PartWay_init) = true)
    (a_PairWay_init : PySem.W.findIn K (.ref c_PairWay) "__init__" = some (some (.ref f_PairWay_init)))
    (i_PairWay_init : PySem.W.isFn K (.ref f_PairWay_init) = true)
    (l_PairWay_init : K.lookup f_PairWay_init = some ⟨oc_PairWay_init, od_PairWay_init, .func (PySem.W.fnOf "__init__" "PairWay.__init__" (defArgs s_PairWay_init) (defBody s_PairWay_init) (defScope s_PairWay_init) .none kV_PairWay_init dc_PairWay_init pm_PairWay_init an_PairWay_init cd_PairWay_init ct_PairWay_init), sl_PairWay_init⟩)
    (c_PairWay_init : PySem.W.codeIn K cd_PairWay_init "PairWay.__init__" = true)
    (k_PairWay_init : PySem.W.keepIn K (.ref f_PairWay_init) = true)
    (pg_BitWriter : PySem.W.plainGet K c_BitWriter Str.empty = true)
    (hd_BitWriter : PySem.W.hasDictIn K c_BitWriter = true)
    (po_BitWriter : PySem.W.plainOver K c_BitWriter = true)
    (sa_BitWriter : PySem.W.findIn K (.ref c_BitWriter) "__setattr__" = some (some (.builtin "object.__setattr__")))
    (mk_BitWriter : PySem.W.makesIn K c_BitWriter = true)
    (kc_BitWriter : PySem.W.keepIn K (.ref c_BitWriter) = true)
    (n_BitWriter_written : PySem.W.findIn K (.ref c_BitWriter) "written" = some none)
    (n_BitWriter_size : PySem.W.findIn K (.ref c_BitWriter) "size" = some none)
    (pg_Form : PySem.W.plainGet K c_Form Str.empty = true)
    (hd_Form : PySem.W.hasDictIn K c_Form = true)
    (po_Form : PySem.W.plainOver K c_Form = true)
    (sa_Form : PySem.W.findIn K (.ref c_Form) "__setattr__" = some (some (.builtin "object.__setattr__")))
    (mk_Form : PySem.W.makesIn K c_Form = true)
    (kc_Form : PySem.W.keepIn K (.ref c_Form) = true)
    (n_Form_channels : PySem.W.findIn K (.ref c_Form) "channels" = some none)
    (n_Form_depth : PySem.W.findIn K (.ref c_Form) "depth" = some none)
    (n_Form_block : PySem.W.findIn K (.ref c_Form) "block" = some none)
    (n_Form_order : PySem.W.findIn K (.ref c_Form) "order" = some none)
    (n_Form_group : PySem.W.findIn K (.ref c_Form) "group" = some none)
    (n_Form_spare : PySem.W.findIn K (.ref c_Form) "spare" = some none)
    (pg_Guess : PySem.W.plainGet K c_Guess Str.empty = true)
    (hd_Guess : PySem.W.hasDictIn K c_Guess = true)
    (po_Guess : PySem.W.plainOver K c_Guess = true)
    (sa_Guess : PySem.W.findIn K (.ref c_Guess) "__setattr__" = some (some (.builtin "object.__setattr__")))
    (mk_Guess : PySem.W.makesIn K c_Guess = true)
    (kc_Guess : PySem.W.keepIn K (.ref c_Guess) = true)
    (n_Guess_factors : PySem.W.findIn K (.ref c_Guess) "factors" = some none)
    (n_Guess_shift : PySem.W.findIn K (.ref c_Guess) "shift" = some none)
    (pg_GroupWay : PySem.W.plainGet K c_GroupWay Str.empty = true)
    (hd_GroupWay : PySem.W.hasDictIn K c_GroupWay = true)
    (po_GroupWay : PySem.W.plainOver K c_GroupWay = true)
    (sa_GroupWay : PySem.W.findIn K (.ref c_GroupWay) "__setattr__" = some (some (.builtin "object.__setattr__")))
    (mk_GroupWay : PySem.W.makesIn K c_GroupWay = true)
    (kc_GroupWay : PySem.W.keepIn K (.ref c_GroupWay) = true)
    (n_GroupWay_first : PySem.W.findIn K (.ref c_GroupWay) "first" = some none)
    (n_GroupWay_last : PySem.W.findIn K (.ref c_GroupWay) "last" = some none)
    (n_GroupWay_g : PySem.W.findIn K (.ref c_GroupWay) "g" = some none)
    (n_GroupWay_v : PySem.W.findIn K (.ref c_GroupWay) "v" = some none)
    (n_GroupWay_bits : PySem.W.findIn K (.ref c_GroupWay) "bits" = some none)
    (pg_RestsWay : PySem.W.plainGet K c_RestsWay Str.empty = true)
    (hd_RestsWay : PySem.W.hasDictIn K c_RestsWay = true)
    (po_RestsWay : PySem.W.plainOver K c_RestsWay = true)
    (sa_RestsWay : PySem.W.findIn K (.ref c_RestsWay) "__setattr__" = some (some (.builtin "object.__setattr__")))
    (mk_RestsWay : PySem.W.makesIn K c_RestsWay = true)
    (kc_RestsWay : PySem.W.keepIn K (.ref c_RestsWay) = true)
    (n_RestsWay_r : PySem.W.findIn K (.ref c_RestsWay) "r" = some none)
    (n_RestsWay_groups : PySem.W.findIn K (.ref c_RestsWay) "groups" = some none)
    (n_RestsWay_bits : PySem.W.findIn K (.ref c_RestsWay) "bits" = some none)
    (pg_Shrunk : PySem.W.plainGet K c_Shrunk Str.empty = true)
    (hd_Shrunk : PySem.W.hasDictIn K c_Shrunk = true)
    (po_Shrunk : PySem.W.plainOver K c_Shrunk = true)
    (sa_Shrunk : PySem.W.findIn K (.ref c_Shrunk) "__setattr__" = some (some (.builtin "object.__setattr__")))
    (mk_Shrunk : PySem.W.makesIn K c_Shrunk = true)
    (kc_Shrunk : PySem.W.keepIn K (.ref c_Shrunk) = true)
    (n_Shrunk_z : PySem.W.findIn K (.ref c_Shrunk) "z" = some none)
    (n_Shrunk_width : PySem.W.findIn K (.ref c_Shrunk) "width" = some none)
    (n_Shrunk_numbers : PySem.W.findIn K (.ref c_Shrunk) "numbers" = some none)
    (pg_PartWay : PySem.W.plainGet K c_PartWay Str.empty = true)
    (hd_PartWay : PySem.W.hasDictIn K c_PartWay = true)
    (po_PartWay : PySem.W.plainOver K c_PartWay = true)
    (sa_PartWay : PySem.W.findIn K (.ref c_PartWay) "__setattr__" = some (some (.builtin "object.__setattr__")))
    (mk_PartWay : PySem.W.makesIn K c_PartWay = true)
    (kc_PartWay : PySem.W.keepIn K (.ref c_PartWay) = true)
    (n_PartWay_kind : PySem.W.findIn K (.ref c_PartWay) "kind" = some none)
    (n_PartWay_shrunk : PySem.W.findIn K (.ref c_PartWay) "shrunk" = some none)
    (n_PartWay_guess : PySem.W.findIn K (.ref c_PartWay) "guess" = some none)
    (n_PartWay_rests_way : PySem.W.findIn K (.ref c_PartWay) "rests_way" = some none)
    (n_PartWay_bits : PySem.W.findIn K (.ref c_PartWay) "bits" = some none)
    (pg_PairWay : PySem.W.plainGet K c_PairWay Str.empty = true)
    (hd_PairWay : PySem.W.hasDictIn K c_PairWay = true)
    (po_PairWay : PySem.W.plainOver K c_PairWay = true)
    (sa_PairWay : PySem.W.findIn K (.ref c_PairWay) "__setattr__" = some (some (.builtin "object.__setattr__")))
    (mk_PairWay : PySem.W.makesIn K c_PairWay = true)
    (kc_PairWay : PySem.W.keepIn K (.ref c_PairWay) = true)
    (n_PairWay_mode : PySem.W.findIn K (.ref c_PairWay) "mode" = some none)
    (n_PairWay_parts : PySem.W.findIn K (.ref c_PairWay) "parts" = some none)
    (n_PairWay_bits : PySem.W.findIn K (.ref c_PairWay) "bits" = some none)
    (g_FACTOR_WIDTH : PySem.W.nsIn K mainGlobals "FACTOR_WIDTH" = some (some (.int 12 t_FACTOR_WIDTH)))
    (g_GREATEST_SHIFT : PySem.W.nsIn K mainGlobals "GREATEST_SHIFT" = some (some (.int 15 t_GREATEST_SHIFT)))
    (g_GREATEST_SPLIT : PySem.W.nsIn K mainGlobals "GREATEST_SPLIT" = some (some (.int 6 t_GREATEST_SPLIT)))
    (g_PLAIN : PySem.W.nsIn K mainGlobals "PLAIN" = some (some (.int 31 t_PLAIN)))
    (g_SAME : PySem.W.nsIn K mainGlobals "SAME" = some (some (.int 0 t_SAME)))
    (g_PLAIN_KIND : PySem.W.nsIn K mainGlobals "PLAIN_KIND" = some (some (.int 1 t_PLAIN_KIND)))
    (g_FIRST_FIXED : PySem.W.nsIn K mainGlobals "FIRST_FIXED" = some (some (.int 2 t_FIRST_FIXED)))
    (g_FIRST_LINEAR : PySem.W.nsIn K mainGlobals "FIRST_LINEAR" = some (some (.int 7 t_FIRST_LINEAR)))
    (g_MARK_frames : PySem.W.nsIn K mainGlobals "MARK" = some (some (.int 19287 t_MARK_frames)))
    (g_FRAME_NUMBERS : PySem.W.nsIn K mainGlobals "FRAME_NUMBERS" = some (some (.int 1048576 t_FRAME_NUMBERS)))
    (g_RANGES : PySem.W.nsIn K mainGlobals "RANGES" = some (some (.ref a_RANGES)))
    (t_RANGES : K.lookup a_RANGES = some ⟨.type "tuple", dT_RANGES, .seq #[.ref a_RANGES_0, .ref a_RANGES_1, .ref a_RANGES_2, .ref a_RANGES_3, .ref a_RANGES_4, .ref a_RANGES_5] nT_RANGES, sT_RANGES⟩)
    (t_RANGES_0 : K.lookup a_RANGES_0 = some ⟨.type "tuple", dT_RANGES_0, .seq #[.int (1) tk_RANGES_0_0, .int (4) tk_RANGES_0_1] nT_RANGES_0, sT_RANGES_0⟩)
    (t_RANGES_1 : K.lookup a_RANGES_1 = some ⟨.type "tuple", dT_RANGES_1, .seq #[.int (4) tk_RANGES_1_0, .int (24) tk_RANGES_1_1] nT_RANGES_1, sT_RANGES_1⟩)
    (t_RANGES_2 : K.lookup a_RANGES_2 = some ⟨.type "tuple", dT_RANGES_2, .seq #[.int (16) tk_RANGES_2_0, .int (256) tk_RANGES_2_1] nT_RANGES_2, sT_RANGES_2⟩)
    (t_RANGES_3 : K.lookup a_RANGES_3 = some ⟨.type "tuple", dT_RANGES_3, .seq #[.int (0) tk_RANGES_3_0, .int (4) tk_RANGES_3_1] nT_RANGES_3, sT_RANGES_3⟩)
    (t_RANGES_4 : K.lookup a_RANGES_4 = some ⟨.type "tuple", dT_RANGES_4, .seq #[.int (1) tk_RANGES_4_0, .int (8) tk_RANGES_4_1] nT_RANGES_4, sT_RANGES_4⟩)
    (t_RANGES_5 : K.lookup a_RANGES_5 = some ⟨.type "tuple", dT_RANGES_5, .seq #[.int (0) tk_RANGES_5_0, .int (4) tk_RANGES_5_1] nT_RANGES_5, sT_RANGES_5⟩)
    (g_FIXED : PySem.W.nsIn K mainGlobals "FIXED" = some (some (.ref a_FIXED)))
    (t_FIXED : K.lookup a_FIXED = some ⟨.type "tuple", dT_FIXED, .seq #[.ref a_FIXED_0, .ref a_FIXED_1, .ref a_FIXED_2, .ref a_FIXED_3, .ref a_FIXED_4] nT_FIXED, sT_FIXED⟩)
    (t_FIXED_0 : K.lookup a_FIXED_0 = some ⟨.type "tuple", dT_FIXED_0, .seq #[] nT_FIXED_0, sT_FIXED_0⟩)
    (t_FIXED_1 : K.lookup a_FIXED_1 = some ⟨.type "tuple", dT_FIXED_1, .seq #[.int (1) tk_FIXED_1_0] nT_FIXED_1, sT_FIXED_1⟩)
    (t_FIXED_2 : K.lookup a_FIXED_2 = some ⟨.type "tuple", dT_FIXED_2, .seq #[.int (2) tk_FIXED_2_0, .int (-1) tk_FIXED_2_1] nT_FIXED_2, sT_FIXED_2⟩)
    (t_FIXED_3 : K.lookup a_FIXED_3 = some ⟨.type "tuple", dT_FIXED_3, .seq #[.int (3) tk_FIXED_3_0, .int (-3) tk_FIXED_3_1, .int (1) tk_FIXED_3_2] nT_FIXED_3, sT_FIXED_3⟩)
    (t_FIXED_4 : K.lookup a_FIXED_4 = some ⟨.type "tuple", dT_FIXED_4, .seq #[.int (4) tk_FIXED_4_0, .int (-6) tk_FIXED_4_1, .int (4) tk_FIXED_4_2, .int (-1) tk_FIXED_4_3] nT_FIXED_4, sT_FIXED_4⟩)
    (z_abs : PySem.W.nsIn K mainGlobals "abs" = some none)
    (z_all : PySem.W.nsIn K mainGlobals "all" = some none)
    (z_enumerate : PySem.W.nsIn K mainGlobals "enumerate" = some none)
    (z_len : PySem.W.nsIn K mainGlobals "len" = some none)
    (z_list : PySem.W.nsIn K mainGlobals "list" = some none)
    (z_max : PySem.W.nsIn K mainGlobals "max" = some none)
    (z_min : PySem.W.nsIn K mainGlobals "min" = some none)
    (z_range : PySem.W.nsIn K mainGlobals "range" = some none)
    (z_sum : PySem.W.nsIn K mainGlobals "sum" = some none)
    (z_zip : PySem.W.nsIn K mainGlobals "zip" = some none)
    : ∃ A : Adr, Txt K mg A := by
  have F_crc16 := fun_mk (st := s_crc16) l_crc16 c_crc16 k_crc16
  have F_is_form := fun_mk (st := s_is_form) l_is_form c_is_form k_is_form
  have F_fits := fun_mk (st := s_fits) l_fits c_fits k_fits
  have F_all_fit := fun_mk (st := s_all_fit) l_all_fit c_all_fit k_all_fit
  have F_fixed_guess := fun_mk (st := s_fixed_guess) l_fixed_guess c_fixed_guess k_fixed_guess
  have F_linear_guess := fun_mk (st := s_linear_guess) l_linear_guess c_linear_guess k_linear_guess
  have F_normal_row := fun_mk (st := s_normal_row) l_normal_row c_normal_row k_normal_row
  have F_lagged_product := fun_mk (st := s_lagged_product) l_lagged_product c_lagged_product k_lagged_product
  have F_solved_guesses := fun_mk (st := s_solved_guesses) l_solved_guesses c_solved_guesses k_solved_guesses
  have F_cleared := fun_mk (st := s_cleared) l_cleared c_cleared k_cleared
  have F_nearest := fun_mk (st := s_nearest) l_nearest c_nearest k_nearest
  have F_folded_rest := fun_mk (st := s_folded_rest) l_folded_rest c_folded_rest k_folded_rest
  have F_can_split := fun_mk (st := s_can_split) l_can_split c_can_split k_can_split
  have F_least_rests := fun_mk (st := s_least_rests) l_least_rests c_least_rests k_least_rests
  have F_shifted_sums := fun_mk (st := s_shifted_sums) l_shifted_sums c_shifted_sums k_shifted_sums
  have F_running_sums := fun_mk (st := s_running_sums) l_running_sums c_running_sums k_running_sums
  have F_split_groups := fun_mk (st := s_split_groups) l_split_groups c_split_groups k_split_groups
  have F_least_group := fun_mk (st := s_least_group) l_least_group c_least_group k_least_group
  have F_write_rests := fun_mk (st := s_write_rests) l_write_rests c_write_rests k_write_rests
  have F_write_rest := fun_mk (st := s_write_rest) l_write_rest c_write_rest k_write_rest
  have F_order_of_kind := fun_mk (st := s_order_of_kind) l_order_of_kind c_order_of_kind k_order_of_kind
  have F_shared_zeros := fun_mk (st := s_shared_zeros) l_shared_zeros c_shared_zeros k_shared_zeros
  have F_least_part := fun_mk (st := s_least_part) l_least_part c_least_part k_least_part
  have F_plain_way := fun_mk (st := s_plain_way) l_plain_way c_plain_way k_plain_way
  have F_guessed_way := fun_mk (st := s_guessed_way) l_guessed_way c_guessed_way k_guessed_way
  have F_chosen_guess := fun_mk (st := s_chosen_guess) l_chosen_guess c_chosen_guess k_chosen_guess
  have F_write_part := fun_mk (st := s_write_part) l_write_part c_write_part k_write_part
  have F_write_zeros := fun_mk (st := s_write_zeros) l_write_zeros c_write_zeros k_write_zeros
  have F_write_plainly := fun_mk (st := s_write_plainly) l_write_plainly c_write_plainly k_write_plainly
  have F_least_pair := fun_mk (st := s_least_pair) l_least_pair c_least_pair k_least_pair
  have F_least_pairs := fun_mk (st := s_least_pairs) l_least_pairs c_least_pairs k_least_pairs
  have F_write_frame := fun_mk (st := s_write_frame) l_write_frame c_write_frame k_write_frame
  have F_counted := fun_mk (st := s_counted) l_counted c_counted k_counted
  have F_frame := fun_mk (st := s_frame) l_frame c_frame k_frame
  have F_BitWriter_init := fun_mk (st := s_BitWriter_init) l_BitWriter_init c_BitWriter_init k_BitWriter_init
  have F_BitWriter_unsigned := fun_mk (st := s_BitWriter_unsigned) l_BitWriter_unsigned c_BitWriter_unsigned k_BitWriter_unsigned
  have F_BitWriter_signed := fun_mk (st := s_BitWriter_signed) l_BitWriter_signed c_BitWriter_signed k_BitWriter_signed
  have F_BitWriter_run := fun_mk (st := s_BitWriter_run) l_BitWriter_run c_BitWriter_run k_BitWriter_run
  have F_BitWriter_whole_bytes := fun_mk (st := s_BitWriter_whole_bytes) l_BitWriter_whole_bytes c_BitWriter_whole_bytes k_BitWriter_whole_bytes
  have F_Form_init := fun_mk (st := s_Form_init) l_Form_init c_Form_init k_Form_init
  have F_Guess_init := fun_mk (st := s_Guess_init) l_Guess_init c_Guess_init k_Guess_init
  have F_Guess_at := fun_mk (st := s_Guess_at) l_Guess_at c_Guess_at k_Guess_at
  have F_Guess_all_rests := fun_mk (st := s_Guess_all_rests) l_Guess_all_rests c_Guess_all_rests k_Guess_all_rests
  have F_GroupWay_init := fun_mk (st := s_GroupWay_init) l_GroupWay_init c_GroupWay_init k_GroupWay_init
  have F_RestsWay_init := fun_mk (st := s_RestsWay_init) l_RestsWay_init c_RestsWay_init k_RestsWay_init
  have F_Shrunk_init := fun_mk (st := s_Shrunk_init) l_Shrunk_init c_Shrunk_init k_Shrunk_init
  have F_PartWay_init := fun_mk (st := s_PartWay_init) l_PartWay_init c_PartWay_init k_PartWay_init
  have F_PairWay_init := fun_mk (st := s_PairWay_init) l_PairWay_init c_PairWay_init k_PairWay_init
  refine ⟨⟨f_crc16, PySem.W.fnOf "crc16" "crc16" (defArgs s_crc16) (defBody s_crc16) (defScope s_crc16) .none kV_crc16 dc_crc16 pm_crc16 an_crc16 cd_crc16 ct_crc16, f_is_form, PySem.W.fnOf "is_form" "is_form" (defArgs s_is_form) (defBody s_is_form) (defScope s_is_form) .none kV_is_form dc_is_form pm_is_form an_is_form cd_is_form ct_is_form, f_fits, PySem.W.fnOf "fits" "fits" (defArgs s_fits) (defBody s_fits) (defScope s_fits) .none kV_fits dc_fits pm_fits an_fits cd_fits ct_fits, f_all_fit, PySem.W.fnOf "all_fit" "all_fit" (defArgs s_all_fit) (defBody s_all_fit) (defScope s_all_fit) .none kV_all_fit dc_all_fit pm_all_fit an_all_fit cd_all_fit ct_all_fit, f_fixed_guess, PySem.W.fnOf "fixed_guess" "fixed_guess" (defArgs s_fixed_guess) (defBody s_fixed_guess) (defScope s_fixed_guess) .none kV_fixed_guess dc_fixed_guess pm_fixed_guess an_fixed_guess cd_fixed_guess ct_fixed_guess, f_linear_guess, PySem.W.fnOf "linear_guess" "linear_guess" (defArgs s_linear_guess) (defBody s_linear_guess) (defScope s_linear_guess) .none kV_linear_guess dc_linear_guess pm_linear_guess an_linear_guess cd_linear_guess ct_linear_guess, f_normal_row, PySem.W.fnOf "normal_row" "normal_row" (defArgs s_normal_row) (defBody s_normal_row) (defScope s_normal_row) .none kV_normal_row dc_normal_row pm_normal_row an_normal_row cd_normal_row ct_normal_row, f_lagged_product, PySem.W.fnOf "lagged_product" "lagged_product" (defArgs s_lagged_product) (defBody s_lagged_product) (defScope s_lagged_product) .none kV_lagged_product dc_lagged_product pm_lagged_product an_lagged_product cd_lagged_product ct_lagged_product, f_solved_guesses, PySem.W.fnOf "solved" "solved" (defArgs s_solved_guesses) (defBody s_solved_guesses) (defScope s_solved_guesses) .none kV_solved_guesses dc_solved_guesses pm_solved_guesses an_solved_guesses cd_solved_guesses ct_solved_guesses, f_cleared, PySem.W.fnOf "cleared" "cleared" (defArgs s_cleared) (defBody s_cleared) (defScope s_cleared) .none kV_cleared dc_cleared pm_cleared an_cleared cd_cleared ct_cleared, f_nearest, PySem.W.fnOf "nearest" "nearest" (defArgs s_nearest) (defBody s_nearest) (defScope s_nearest) .none kV_nearest dc_nearest pm_nearest an_nearest cd_nearest ct_nearest, f_folded_rest, PySem.W.fnOf "folded_rest" "folded_rest" (defArgs s_folded_rest) (defBody s_folded_rest) (defScope s_folded_rest) .none kV_folded_rest dc_folded_rest pm_folded_rest an_folded_rest cd_folded_rest ct_folded_rest, f_can_split, PySem.W.fnOf "can_split" "can_split" (defArgs s_can_split) (defBody s_can_split) (defScope s_can_split) .none kV_can_split dc_can_split pm_can_split an_can_split cd_can_split ct_can_split, f_least_rests, PySem.W.fnOf "least_rests" "least_rests" (defArgs s_least_rests) (defBody s_least_rests) (defScope s_least_rests) .none kV_least_rests dc_least_rests pm_least_rests an_least_rests cd_least_rests ct_least_rests, f_shifted_sums, PySem.W.fnOf "shifted_sums" "shifted_sums" (defArgs s_shifted_sums) (defBody s_shifted_sums) (defScope s_shifted_sums) .none kV_shifted_sums dc_shifted_sums pm_shifted_sums an_shifted_sums cd_shifted_sums ct_shifted_sums, f_running_sums, PySem.W.fnOf "running_sums" "running_sums" (defArgs s_running_sums) (defBody s_running_sums) (defScope s_running_sums) .none kV_running_sums dc_running_sums pm_running_sums an_running_sums cd_running_sums ct_running_sums, f_split_groups, PySem.W.fnOf "split_groups" "split_groups" (defArgs s_split_groups) (defBody s_split_groups) (defScope s_split_groups) .none kV_split_groups dc_split_groups pm_split_groups an_split_groups cd_split_groups ct_split_groups, f_least_group, PySem.W.fnOf "least_group" "least_group" (defArgs s_least_group) (defBody s_least_group) (defScope s_least_group) .none kV_least_group dc_least_group pm_least_group an_least_group cd_least_group ct_least_group, f_write_rests, PySem.W.fnOf "write_rests" "write_rests" (defArgs s_write_rests) (defBody s_write_rests) (defScope s_write_rests) .none kV_write_rests dc_write_rests pm_write_rests an_write_rests cd_write_rests ct_write_rests, f_write_rest, PySem.W.fnOf "write_rest" "write_rest" (defArgs s_write_rest) (defBody s_write_rest) (defScope s_write_rest) .none kV_write_rest dc_write_rest pm_write_rest an_write_rest cd_write_rest ct_write_rest, f_order_of_kind, PySem.W.fnOf "order_of_kind" "order_of_kind" (defArgs s_order_of_kind) (defBody s_order_of_kind) (defScope s_order_of_kind) .none kV_order_of_kind dc_order_of_kind pm_order_of_kind an_order_of_kind cd_order_of_kind ct_order_of_kind, f_shared_zeros, PySem.W.fnOf "shared_zeros" "shared_zeros" (defArgs s_shared_zeros) (defBody s_shared_zeros) (defScope s_shared_zeros) .none kV_shared_zeros dc_shared_zeros pm_shared_zeros an_shared_zeros cd_shared_zeros ct_shared_zeros, f_least_part, PySem.W.fnOf "least_part" "least_part" (defArgs s_least_part) (defBody s_least_part) (defScope s_least_part) .none kV_least_part dc_least_part pm_least_part an_least_part cd_least_part ct_least_part, f_plain_way, PySem.W.fnOf "plain_way" "plain_way" (defArgs s_plain_way) (defBody s_plain_way) (defScope s_plain_way) .none kV_plain_way dc_plain_way pm_plain_way an_plain_way cd_plain_way ct_plain_way, f_guessed_way, PySem.W.fnOf "guessed_way" "guessed_way" (defArgs s_guessed_way) (defBody s_guessed_way) (defScope s_guessed_way) .none kV_guessed_way dc_guessed_way pm_guessed_way an_guessed_way cd_guessed_way ct_guessed_way, f_chosen_guess, PySem.W.fnOf "chosen_guess" "chosen_guess" (defArgs s_chosen_guess) (defBody s_chosen_guess) (defScope s_chosen_guess) .none kV_chosen_guess dc_chosen_guess pm_chosen_guess an_chosen_guess cd_chosen_guess ct_chosen_guess, f_write_part, PySem.W.fnOf "write_part" "write_part" (defArgs s_write_part) (defBody s_write_part) (defScope s_write_part) .none kV_write_part dc_write_part pm_write_part an_write_part cd_write_part ct_write_part, f_write_zeros, PySem.W.fnOf "write_zeros" "write_zeros" (defArgs s_write_zeros) (defBody s_write_zeros) (defScope s_write_zeros) .none kV_write_zeros dc_write_zeros pm_write_zeros an_write_zeros cd_write_zeros ct_write_zeros, f_write_plainly, PySem.W.fnOf "write_plainly" "write_plainly" (defArgs s_write_plainly) (defBody s_write_plainly) (defScope s_write_plainly) .none kV_write_plainly dc_write_plainly pm_write_plainly an_write_plainly cd_write_plainly ct_write_plainly, f_least_pair, PySem.W.fnOf "least_pair" "least_pair" (defArgs s_least_pair) (defBody s_least_pair) (defScope s_least_pair) .none kV_least_pair dc_least_pair pm_least_pair an_least_pair cd_least_pair ct_least_pair, f_least_pairs, PySem.W.fnOf "least_pairs" "least_pairs" (defArgs s_least_pairs) (defBody s_least_pairs) (defScope s_least_pairs) .none kV_least_pairs dc_least_pairs pm_least_pairs an_least_pairs cd_least_pairs ct_least_pairs, f_write_frame, PySem.W.fnOf "write_frame" "write_frame" (defArgs s_write_frame) (defBody s_write_frame) (defScope s_write_frame) .none kV_write_frame dc_write_frame pm_write_frame an_write_frame cd_write_frame ct_write_frame, f_counted, PySem.W.fnOf "counted" "counted" (defArgs s_counted) (defBody s_counted) (defScope s_counted) .none kV_counted dc_counted pm_counted an_counted cd_counted ct_counted, f_frame, PySem.W.fnOf "frame" "frame" (defArgs s_frame) (defBody s_frame) (defScope s_frame) .none kV_frame dc_frame pm_frame an_frame cd_frame ct_frame, f_BitWriter_init, PySem.W.fnOf "__init__" "BitWriter.__init__" (defArgs s_BitWriter_init) (defBody s_BitWriter_init) (defScope s_BitWriter_init) .none kV_BitWriter_init dc_BitWriter_init pm_BitWriter_init an_BitWriter_init cd_BitWriter_init ct_BitWriter_init, f_BitWriter_unsigned, PySem.W.fnOf "unsigned" "BitWriter.unsigned" (defArgs s_BitWriter_unsigned) (defBody s_BitWriter_unsigned) (defScope s_BitWriter_unsigned) .none kV_BitWriter_unsigned dc_BitWriter_unsigned pm_BitWriter_unsigned an_BitWriter_unsigned cd_BitWriter_unsigned ct_BitWriter_unsigned, f_BitWriter_signed, PySem.W.fnOf "signed" "BitWriter.signed" (defArgs s_BitWriter_signed) (defBody s_BitWriter_signed) (defScope s_BitWriter_signed) .none kV_BitWriter_signed dc_BitWriter_signed pm_BitWriter_signed an_BitWriter_signed cd_BitWriter_signed ct_BitWriter_signed, f_BitWriter_run, PySem.W.fnOf "run" "BitWriter.run" (defArgs s_BitWriter_run) (defBody s_BitWriter_run) (defScope s_BitWriter_run) .none kV_BitWriter_run dc_BitWriter_run pm_BitWriter_run an_BitWriter_run cd_BitWriter_run ct_BitWriter_run, f_BitWriter_whole_bytes, PySem.W.fnOf "whole_bytes" "BitWriter.whole_bytes" (defArgs s_BitWriter_whole_bytes) (defBody s_BitWriter_whole_bytes) (defScope s_BitWriter_whole_bytes) .none kV_BitWriter_whole_bytes dc_BitWriter_whole_bytes pm_BitWriter_whole_bytes an_BitWriter_whole_bytes cd_BitWriter_whole_bytes ct_BitWriter_whole_bytes, f_Form_init, PySem.W.fnOf "__init__" "Form.__init__" (defArgs s_Form_init) (defBody s_Form_init) (defScope s_Form_init) .none kV_Form_init dc_Form_init pm_Form_init an_Form_init cd_Form_init ct_Form_init, f_Guess_init, PySem.W.fnOf "__init__" "Guess.__init__" (defArgs s_Guess_init) (defBody s_Guess_init) (defScope s_Guess_init) .none kV_Guess_init dc_Guess_init pm_Guess_init an_Guess_init cd_Guess_init ct_Guess_init, f_Guess_at, PySem.W.fnOf "at" "Guess.at" (defArgs s_Guess_at) (defBody s_Guess_at) (defScope s_Guess_at) .none kV_Guess_at dc_Guess_at pm_Guess_at an_Guess_at cd_Guess_at ct_Guess_at, f_Guess_all_rests, PySem.W.fnOf "all_rests" "Guess.all_rests" (defArgs s_Guess_all_rests) (defBody s_Guess_all_rests) (defScope s_Guess_all_rests) .none kV_Guess_all_rests dc_Guess_all_rests pm_Guess_all_rests an_Guess_all_rests cd_Guess_all_rests ct_Guess_all_rests, f_GroupWay_init, PySem.W.fnOf "__init__" "GroupWay.__init__" (defArgs s_GroupWay_init) (defBody s_GroupWay_init) (defScope s_GroupWay_init) .none kV_GroupWay_init dc_GroupWay_init pm_GroupWay_init an_GroupWay_init cd_GroupWay_init ct_GroupWay_init, f_RestsWay_init, PySem.W.fnOf "__init__" "RestsWay.__init__" (defArgs s_RestsWay_init) (defBody s_RestsWay_init) (defScope s_RestsWay_init) .none kV_RestsWay_init dc_RestsWay_init pm_RestsWay_init an_RestsWay_init cd_RestsWay_init ct_RestsWay_init, f_Shrunk_init, PySem.W.fnOf "__init__" "Shrunk.__init__" (defArgs s_Shrunk_init) (defBody s_Shrunk_init) (defScope s_Shrunk_init) .none kV_Shrunk_init dc_Shrunk_init pm_Shrunk_init an_Shrunk_init cd_Shrunk_init ct_Shrunk_init, f_PartWay_init, PySem.W.fnOf "__init__" "PartWay.__init__" (defArgs s_PartWay_init) (defBody s_PartWay_init) (defScope s_PartWay_init) .none kV_PartWay_init dc_PartWay_init pm_PartWay_init an_PartWay_init cd_PartWay_init ct_PartWay_init, f_PairWay_init, PySem.W.fnOf "__init__" "PairWay.__init__" (defArgs s_PairWay_init) (defBody s_PairWay_init) (defScope s_PairWay_init) .none kV_PairWay_init dc_PairWay_init pm_PairWay_init an_PairWay_init cd_PairWay_init ct_PairWay_init, c_BitWriter, c_Form, c_Guess, c_GroupWay, c_RestsWay, c_Shrunk, c_PartWay, c_PairWay, t_FACTOR_WIDTH, t_GREATEST_SHIFT, t_GREATEST_SPLIT, t_PLAIN, t_SAME, t_PLAIN_KIND, t_FIRST_FIXED, t_FIRST_LINEAR, t_MARK_frames, t_FRAME_NUMBERS, a_RANGES, a_RANGES_0, a_RANGES_1, a_RANGES_2, a_RANGES_3, a_RANGES_4, a_RANGES_5, a_FIXED, a_FIXED_0, a_FIXED_1, a_FIXED_2, a_FIXED_3, a_FIXED_4⟩, ?_⟩
  exact {
    F_crc16 := F_crc16,
    b_crc16 := F_crc16.binds (ps := ["data"]) fun _ _ _ _ _ _ us hl => match us, hl with | [_], _ => rfl,
    m_crc16 := PySem.W.mg_of X G a_crc16,
    F_is_form := F_is_form,
    b_is_form := F_is_form.binds (ps := ["form"]) fun _ _ _ _ _ _ us hl => match us, hl with | [_], _ => rfl,
    m_is_form := PySem.W.mg_of X G a_is_form,
    F_fits := F_fits,
    b_fits := F_fits.binds (ps := ["width", "number"]) fun _ _ _ _ _ _ us hl => match us, hl with | [_, _], _ => rfl,
    m_fits := PySem.W.mg_of X G a_fits,
    F_all_fit := F_all_fit,
    b_all_fit := F_all_fit.binds (ps := ["width", "numbers"]) fun _ _ _ _ _ _ us hl => match us, hl with | [_, _], _ => rfl,
    m_all_fit := PySem.W.mg_of X G a_all_fit,
    F_fixed_guess := F_fixed_guess,
    b_fixed_guess := F_fixed_guess.binds (ps := ["order"]) fun _ _ _ _ _ _ us hl => match us, hl with | [_], _ => rfl,
    m_fixed_guess := PySem.W.mg_of X G a_fixed_guess,
    F_linear_guess := F_linear_guess,
    b_linear_guess := F_linear_guess.binds (ps := ["order", "numbers"]) fun _ _ _ _ _ _ us hl => match us, hl with | [_, _], _ => rfl,
    m_linear_guess := PySem.W.mg_of X G a_linear_guess,
    F_normal_row := F_normal_row,
    b_normal_row := F_normal_row.binds (ps := ["order", "numbers", "lag"]) fun _ _ _ _ _ _ us hl => match us, hl with | [_, _, _], _ => rfl,
    m_normal_row := PySem.W.mg_of X G a_normal_row,
    F_lagged_product := F_lagged_product,
    b_lagged_product := F_lagged_product.binds (ps := ["order", "numbers", "lag", "other"]) fun _ _ _ _ _ _ us hl => match us, hl with | [_, _, _, _], _ => rfl,
    m_lagged_product := PySem.W.mg_of X G a_lagged_product,
    F_solved_guesses := F_solved_guesses,
    b_solved_guesses := F_solved_guesses.binds (ps := ["equations"]) fun _ _ _ _ _ _ us hl => match us, hl with | [_], _ => rfl,
    m_solved_guesses := PySem.W.mg_of X G a_solved_guesses,
    F_cleared := F_cleared,
    b_cleared := F_cleared.binds (ps := ["row", "chosen", "step"]) fun _ _ _ _ _ _ us hl => match us, hl with | [_, _, _], _ => rfl,
    m_cleared := PySem.W.mg_of X G a_cleared,
    F_nearest := F_nearest,
    b_nearest := F_nearest.binds (ps := ["number", "divisor"]) fun _ _ _ _ _ _ us hl => match us, hl with | [_, _], _ => rfl,
    m_nearest := PySem.W.mg_of X G a_nearest,
    F_folded_rest := F_folded_rest,
    b_folded_rest := F_folded_rest.binds (ps := ["rest"]) fun _ _ _ _ _ _ us hl => match us, hl with | [_], _ => rfl,
    m_folded_rest := PySem.W.mg_of X G a_folded_rest,
    F_can_split := F_can_split,
    b_can_split := F_can_split.binds (ps := ["n", "order", "r"]) fun _ _ _ _ _ _ us hl => match us, hl with | [_, _, _], _ => rfl,
    m_can_split := PySem.W.mg_of X G a_can_split,
    F_least_rests := F_least_rests,
    b_least_rests := F_least_rests.binds (ps := ["n", "order", "rests"]) fun _ _ _ _ _ _ us hl => match us, hl with | [_, _, _], _ => rfl,
    m_least_rests := PySem.W.mg_of X G a_least_rests,
    F_shifted_sums := F_shifted_sums,
    b_shifted_sums := F_shifted_sums.binds (ps := ["folded"]) fun _ _ _ _ _ _ us hl => match us, hl with | [_], _ => rfl,
    m_shifted_sums := PySem.W.mg_of X G a_shifted_sums,
    F_running_sums := F_running_sums,
    b_running_sums := F_running_sums.binds (ps := ["folded", "g"]) fun _ _ _ _ _ _ us hl => match us, hl with | [_, _], _ => rfl,
    m_running_sums := PySem.W.mg_of X G a_running_sums,
    F_split_groups := F_split_groups,
    b_split_groups := F_split_groups.binds (ps := ["n", "order", "r", "folded", "sums"]) fun _ _ _ _ _ _ us hl => match us, hl with | [_, _, _, _, _], _ => rfl,
    m_split_groups := PySem.W.mg_of X G a_split_groups,
    F_least_group := F_least_group,
    b_least_group := F_least_group.binds (ps := ["first", "last", "folded", "sums"]) fun _ _ _ _ _ _ us hl => match us, hl with | [_, _, _, _], _ => rfl,
    m_least_group := PySem.W.mg_of X G a_least_group,
    F_write_rests := F_write_rests,
    b_write_rests := F_write_rests.binds (ps := ["writer", "way", "rests"]) fun _ _ _ _ _ _ us hl => match us, hl with | [_, _, _], _ => rfl,
    m_write_rests := PySem.W.mg_of X G a_write_rests,
    F_write_rest := F_write_rest,
    b_write_rest := F_write_rest.binds (ps := ["writer", "group", "rest"]) fun _ _ _ _ _ _ us hl => match us, hl with | [_, _, _], _ => rfl,
    m_write_rest := PySem.W.mg_of X G a_write_rest,
    F_order_of_kind := F_order_of_kind,
    b_order_of_kind := F_order_of_kind.binds (ps := ["kind"]) fun _ _ _ _ _ _ us hl => match us, hl with | [_], _ => rfl,
    m_order_of_kind := PySem.W.mg_of X G a_order_of_kind,
    F_shared_zeros := F_shared_zeros,
    b_shared_zeros := F_shared_zeros.binds (ps := ["numbers"]) fun _ _ _ _ _ _ us hl => match us, hl with | [_], _ => rfl,
    m_shared_zeros := PySem.W.mg_of X G a_shared_zeros,
    F_least_part := F_least_part,
    b_least_part := F_least_part.binds (ps := ["width", "order", "numbers"]) fun _ _ _ _ _ _ us hl => match us, hl with | [_, _, _], _ => rfl,
    m_least_part := PySem.W.mg_of X G a_least_part,
    F_plain_way := F_plain_way,
    b_plain_way := F_plain_way.binds (ps := ["shrunk"]) fun _ _ _ _ _ _ us hl => match us, hl with | [_], _ => rfl,
    m_plain_way := PySem.W.mg_of X G a_plain_way,
    F_guessed_way := F_guessed_way,
    b_guessed_way := F_guessed_way.binds (ps := ["kind", "shrunk"]) fun _ _ _ _ _ _ us hl => match us, hl with | [_, _], _ => rfl,
    m_guessed_way := PySem.W.mg_of X G a_guessed_way,
    F_chosen_guess := F_chosen_guess,
    b_chosen_guess := F_chosen_guess.binds (ps := ["kind", "order", "numbers"]) fun _ _ _ _ _ _ us hl => match us, hl with | [_, _, _], _ => rfl,
    m_chosen_guess := PySem.W.mg_of X G a_chosen_guess,
    F_write_part := F_write_part,
    b_write_part := F_write_part.binds (ps := ["writer", "way"]) fun _ _ _ _ _ _ us hl => match us, hl with | [_, _], _ => rfl,
    m_write_part := PySem.W.mg_of X G a_write_part,
    F_write_zeros := F_write_zeros,
    b_write_zeros := F_write_zeros.binds (ps := ["writer", "z"]) fun _ _ _ _ _ _ us hl => match us, hl with | [_, _], _ => rfl,
    m_write_zeros := PySem.W.mg_of X G a_write_zeros,
    F_write_plainly := F_write_plainly,
    b_write_plainly := F_write_plainly.binds (ps := ["writer", "width", "numbers"]) fun _ _ _ _ _ _ us hl => match us, hl with | [_, _, _], _ => rfl,
    m_write_plainly := PySem.W.mg_of X G a_write_plainly,
    F_least_pair := F_least_pair,
    b_least_pair := F_least_pair.binds (ps := ["form", "left", "right"]) fun _ _ _ _ _ _ us hl => match us, hl with | [_, _, _], _ => rfl,
    m_least_pair := PySem.W.mg_of X G a_least_pair,
    F_least_pairs := F_least_pairs,
    b_least_pairs := F_least_pairs.binds (ps := ["form", "channels"]) fun _ _ _ _ _ _ us hl => match us, hl with | [_, _], _ => rfl,
    m_least_pairs := PySem.W.mg_of X G a_least_pairs,
    F_write_frame := F_write_frame,
    b_write_frame := F_write_frame.binds (ps := ["form", "k", "numbers"]) fun _ _ _ _ _ _ us hl => match us, hl with | [_, _, _], _ => rfl,
    m_write_frame := PySem.W.mg_of X G a_write_frame,
    F_counted := F_counted,
    b_counted := F_counted.binds (ps := ["data"]) fun _ _ _ _ _ _ us hl => match us, hl with | [_], _ => rfl,
    m_counted := PySem.W.mg_of X G a_counted,
    F_frame := F_frame,
    b_frame := F_frame.binds (ps := ["k", "form", "numbers"]) fun _ _ _ _ _ _ us hl => match us, hl with | [_, _, _], _ => rfl,
    m_frame := PySem.W.mg_of X G a_frame,
    F_BitWriter_init := F_BitWriter_init,
    b_BitWriter_init := F_BitWriter_init.binds (ps := ["self"]) fun _ _ _ _ _ _ us hl => match us, hl with | [_], _ => rfl,
    F_BitWriter_unsigned := F_BitWriter_unsigned,
    b_BitWriter_unsigned := F_BitWriter_unsigned.binds (ps := ["self", "width", "number"]) fun _ _ _ _ _ _ us hl => match us, hl with | [_, _, _], _ => rfl,
    e_BitWriter_unsigned := ⟨a_BitWriter_unsigned, i_BitWriter_unsigned, k_BitWriter_unsigned⟩,
    F_BitWriter_signed := F_BitWriter_signed,
    b_BitWriter_signed := F_BitWriter_signed.binds (ps := ["self", "width", "number"]) fun _ _ _ _ _ _ us hl => match us, hl with | [_, _, _], _ => rfl,
    e_BitWriter_signed := ⟨a_BitWriter_signed, i_BitWriter_signed, k_BitWriter_signed⟩,
    F_BitWriter_run := F_BitWriter_run,
    b_BitWriter_run := F_BitWriter_run.binds (ps := ["self", "zeros"]) fun _ _ _ _ _ _ us hl => match us, hl with | [_, _], _ => rfl,
    e_BitWriter_run := ⟨a_BitWriter_run, i_BitWriter_run, k_BitWriter_run⟩,
    F_BitWriter_whole_bytes := F_BitWriter_whole_bytes,
    b_BitWriter_whole_bytes := F_BitWriter_whole_bytes.binds (ps := ["self"]) fun _ _ _ _ _ _ us hl => match us, hl with | [_], _ => rfl,
    e_BitWriter_whole_bytes := ⟨a_BitWriter_whole_bytes, i_BitWriter_whole_bytes, k_BitWriter_whole_bytes⟩,
    F_Form_init := F_Form_init,
    b_Form_init := F_Form_init.binds (ps := ["self", "form"]) fun _ _ _ _ _ _ us hl => match us, hl with | [_, _], _ => rfl,
    F_Guess_init := F_Guess_init,
    b_Guess_init := F_Guess_init.binds (ps := ["self", "factors", "shift"]) fun _ _ _ _ _ _ us hl => match us, hl with | [_, _, _], _ => rfl,
    F_Guess_at := F_Guess_at,
    b_Guess_at := F_Guess_at.binds (ps := ["self", "numbers", "place"]) fun _ _ _ _ _ _ us hl => match us, hl with | [_, _, _], _ => rfl,
    e_Guess_at := ⟨a_Guess_at, i_Guess_at, k_Guess_at⟩,
    F_Guess_all_rests := F_Guess_all_rests,
    b_Guess_all_rests := F_Guess_all_rests.binds (ps := ["self", "numbers"]) fun _ _ _ _ _ _ us hl => match us, hl with | [_, _], _ => rfl,
    e_Guess_all_rests := ⟨a_Guess_all_rests, i_Guess_all_rests, k_Guess_all_rests⟩,
    F_GroupWay_init := F_GroupWay_init,
    b_GroupWay_init := F_GroupWay_init.binds (ps := ["self", "first", "last", "g", "v", "bits"]) fun _ _ _ _ _ _ us hl => match us, hl with | [_, _, _, _, _, _], _ => rfl,
    F_RestsWay_init := F_RestsWay_init,
    b_RestsWay_init := F_RestsWay_init.binds (ps := ["self", "r", "groups"]) fun _ _ _ _ _ _ us hl => match us, hl with | [_, _, _], _ => rfl,
    F_Shrunk_init := F_Shrunk_init,
    b_Shrunk_init := F_Shrunk_init.binds (ps := ["self", "width", "numbers"]) fun _ _ _ _ _ _ us hl => match us, hl with | [_, _, _], _ => rfl,
    F_PartWay_init := F_PartWay_init,
    b_PartWay_init := F_PartWay_init.binds (ps := ["self", "kind", "shrunk", "guess"]) fun _ _ _ _ _ _ us hl => match us, hl with | [_, _, _, _], _ => rfl,
    F_PairWay_init := F_PairWay_init,
    b_PairWay_init := F_PairWay_init.binds (ps := ["self", "mode", "parts"]) fun _ _ _ _ _ _ us hl => match us, hl with | [_, _, _], _ => rfl,
    l_BitWriter := ⟨pg_BitWriter, hd_BitWriter, po_BitWriter, sa_BitWriter⟩,
    m_BitWriter := PySem.W.mg_of X G a_BitWriter,
    k_BitWriter := ⟨mk_BitWriter, a_BitWriter_init, i_BitWriter_init, kc_BitWriter⟩,
    n_BitWriter_written := n_BitWriter_written,
    n_BitWriter_size := n_BitWriter_size,
    l_Form := ⟨pg_Form, hd_Form, po_Form, sa_Form⟩,
    m_Form := PySem.W.mg_of X G a_Form,
    k_Form := ⟨mk_Form, a_Form_init, i_Form_init, kc_Form⟩,
    n_Form_channels := n_Form_channels,
    n_Form_depth := n_Form_depth,
    n_Form_block := n_Form_block,
    n_Form_order := n_Form_order,
    n_Form_group := n_Form_group,
    n_Form_spare := n_Form_spare,
    l_Guess := ⟨pg_Guess, hd_Guess, po_Guess, sa_Guess⟩,
    m_Guess := PySem.W.mg_of X G a_Guess,
    k_Guess := ⟨mk_Guess, a_Guess_init, i_Guess_init, kc_Guess⟩,
    n_Guess_factors := n_Guess_factors,
    n_Guess_shift := n_Guess_shift,
    l_GroupWay := ⟨pg_GroupWay, hd_GroupWay, po_GroupWay, sa_GroupWay⟩,
    m_GroupWay := PySem.W.mg_of X G a_GroupWay,
    k_GroupWay := ⟨mk_GroupWay, a_GroupWay_init, i_GroupWay_init, kc_GroupWay⟩,
    n_GroupWay_first := n_GroupWay_first,
    n_GroupWay_last := n_GroupWay_last,
    n_GroupWay_g := n_GroupWay_g,
    n_GroupWay_v := n_GroupWay_v,
    n_GroupWay_bits := n_GroupWay_bits,
    l_RestsWay := ⟨pg_RestsWay, hd_RestsWay, po_RestsWay, sa_RestsWay⟩,
    m_RestsWay := PySem.W.mg_of X G a_RestsWay,
    k_RestsWay := ⟨mk_RestsWay, a_RestsWay_init, i_RestsWay_init, kc_RestsWay⟩,
    n_RestsWay_r := n_RestsWay_r,
    n_RestsWay_groups := n_RestsWay_groups,
    n_RestsWay_bits := n_RestsWay_bits,
    l_Shrunk := ⟨pg_Shrunk, hd_Shrunk, po_Shrunk, sa_Shrunk⟩,
    m_Shrunk := PySem.W.mg_of X G a_Shrunk,
    k_Shrunk := ⟨mk_Shrunk, a_Shrunk_init, i_Shrunk_init, kc_Shrunk⟩,
    n_Shrunk_z := n_Shrunk_z,
    n_Shrunk_width := n_Shrunk_width,
    n_Shrunk_numbers := n_Shrunk_numbers,
    l_PartWay := ⟨pg_PartWay, hd_PartWay, po_PartWay, sa_PartWay⟩,
    m_PartWay := PySem.W.mg_of X G a_PartWay,
    k_PartWay := ⟨mk_PartWay, a_PartWay_init, i_PartWay_init, kc_PartWay⟩,
    n_PartWay_kind := n_PartWay_kind,
    n_PartWay_shrunk := n_PartWay_shrunk,
    n_PartWay_guess := n_PartWay_guess,
    n_PartWay_rests_way := n_PartWay_rests_way,
    n_PartWay_bits := n_PartWay_bits,
    l_PairWay := ⟨pg_PairWay, hd_PairWay, po_PairWay, sa_PairWay⟩,
    m_PairWay := PySem.W.mg_of X G a_PairWay,
    k_PairWay := ⟨mk_PairWay, a_PairWay_init, i_PairWay_init, kc_PairWay⟩,
    n_PairWay_mode := n_PairWay_mode,
    n_PairWay_parts := n_PairWay_parts,
    n_PairWay_bits := n_PairWay_bits,
    g_FACTOR_WIDTH := PySem.W.mg_of X G g_FACTOR_WIDTH,
    g_GREATEST_SHIFT := PySem.W.mg_of X G g_GREATEST_SHIFT,
    g_GREATEST_SPLIT := PySem.W.mg_of X G g_GREATEST_SPLIT,
    g_PLAIN := PySem.W.mg_of X G g_PLAIN,
    g_SAME := PySem.W.mg_of X G g_SAME,
    g_PLAIN_KIND := PySem.W.mg_of X G g_PLAIN_KIND,
    g_FIRST_FIXED := PySem.W.mg_of X G g_FIRST_FIXED,
    g_FIRST_LINEAR := PySem.W.mg_of X G g_FIRST_LINEAR,
    g_MARK_frames := PySem.W.mg_of X G g_MARK_frames,
    g_FRAME_NUMBERS := PySem.W.mg_of X G g_FRAME_NUMBERS,
    g_RANGES := PySem.W.mg_of X G g_RANGES,
    q_RANGES := fun H => .inr ⟨_, _, _, t_RANGES, rfl, rfl, (by show 6 ≤ sizeLine; decide), .cons rfl (.cons rfl (.cons rfl (.cons rfl (.cons rfl (.cons rfl (.nil))))))⟩,
    q_RANGES_0 := fun H => .inr ⟨_, _, _, t_RANGES_0, rfl, rfl, (by show 2 ≤ sizeLine; decide), .cons ⟨_, rfl⟩ (.cons ⟨_, rfl⟩ (.nil))⟩,
    q_RANGES_1 := fun H => .inr ⟨_, _, _, t_RANGES_1, rfl, rfl, (by show 2 ≤ sizeLine; decide), .cons ⟨_, rfl⟩ (.cons ⟨_, rfl⟩ (.nil))⟩,
    q_RANGES_2 := fun H => .inr ⟨_, _, _, t_RANGES_2, rfl, rfl, (by show 2 ≤ sizeLine; decide), .cons ⟨_, rfl⟩ (.cons ⟨_, rfl⟩ (.nil))⟩,
    q_RANGES_3 := fun H => .inr ⟨_, _, _, t_RANGES_3, rfl, rfl, (by show 2 ≤ sizeLine; decide), .cons ⟨_, rfl⟩ (.cons ⟨_, rfl⟩ (.nil))⟩,
    q_RANGES_4 := fun H => .inr ⟨_, _, _, t_RANGES_4, rfl, rfl, (by show 2 ≤ sizeLine; decide), .cons ⟨_, rfl⟩ (.cons ⟨_, rfl⟩ (.nil))⟩,
    q_RANGES_5 := fun H => .inr ⟨_, _, _, t_RANGES_5, rfl, rfl, (by show 2 ≤ sizeLine; decide), .cons ⟨_, rfl⟩ (.cons ⟨_, rfl⟩ (.nil))⟩,
    g_FIXED := PySem.W.mg_of X G g_FIXED,
    q_FIXED := fun H => .inr ⟨_, _, _, t_FIXED, rfl, rfl, (by show 5 ≤ sizeLine; decide), .cons rfl (.cons rfl (.cons rfl (.cons rfl (.cons rfl (.nil)))))⟩,
    q_FIXED_0 := fun H => .inr ⟨_, _, _, t_FIXED_0, rfl, rfl, (by show 0 ≤ sizeLine; decide), .nil⟩,
    q_FIXED_1 := fun H => .inr ⟨_, _, _, t_FIXED_1, rfl, rfl, (by show 1 ≤ sizeLine; decide), .cons ⟨_, rfl⟩ (.nil)⟩,
    q_FIXED_2 := fun H => .inr ⟨_, _, _, t_FIXED_2, rfl, rfl, (by show 2 ≤ sizeLine; decide), .cons ⟨_, rfl⟩ (.cons ⟨_, rfl⟩ (.nil))⟩,
    q_FIXED_3 := fun H => .inr ⟨_, _, _, t_FIXED_3, rfl, rfl, (by show 3 ≤ sizeLine; decide), .cons ⟨_, rfl⟩ (.cons ⟨_, rfl⟩ (.cons ⟨_, rfl⟩ (.nil)))⟩,
    q_FIXED_4 := fun H => .inr ⟨_, _, _, t_FIXED_4, rfl, rfl, (by show 4 ≤ sizeLine; decide), .cons ⟨_, rfl⟩ (.cons ⟨_, rfl⟩ (.cons ⟨_, rfl⟩ (.cons ⟨_, rfl⟩ (.nil))))⟩,
    z_abs := PySem.W.mg_none_of X G z_abs,
    z_all := PySem.W.mg_none_of X G z_all,
    z_enumerate := PySem.W.mg_none_of X G z_enumerate,
    z_len := PySem.W.mg_none_of X G z_len,
    z_list := PySem.W.mg_none_of X G z_list,
    z_max := PySem.W.mg_none_of X G z_max,
    z_min := PySem.W.mg_none_of X G z_min,
    z_range := PySem.W.mg_none_of X G z_range,
    z_sum := PySem.W.mg_none_of X G z_sum,
    z_zip := PySem.W.mg_none_of X G z_zip,
    entry := fun s us hu => match us, hu with | [_, _, _], _ => .of_eq rfl
  }
end Wg
namespace Wg
open PySem PySem.Spec PyProof.Rows L2
def hide (D : Addr) (H : Hp) : Hp := fun b => if b = D then none else H b
theorem hide_ne {D b : Addr} {H : Hp} (h : b ≠ D) : hide D H b = H b := by unfold hide; rw [if_neg h]
theorem hide_some {D b : Addr} {H : Hp} {o : HO} (h : hide D H b = some o) : H b = some o ∧ b ≠ D := by
  unfold hide at h
  by_cases e : b = D
  · rw [if_pos e] at h; cases h
  · rw [if_neg e] at h; exact ⟨h, e⟩
theorem hide_same (D : Addr) (H : Hp) : Same (hide D H) H := fun b o h => (hide_some h).1
theorem hide_mono {D : Addr} {H H' : Hp} (s : Same H H') : Same (hide D H) (hide D H') := fun b o h => by
  obtain ⟨h1, h2⟩ := hide_some h
  rw [hide_ne h2]; exact s b o h1
theorem hide_upd (D : Addr) (H : Hp) (o : HO) : hide D (upd H D o) = hide D H := by
  funext b
  unfold hide
  by_cases e : b = D
  · rw [if_pos e, if_pos e]
  · rw [if_neg e, if_neg e, upd_ne e]
theorem same_new {H : Hp} {p : Addr} {o : HO} (h : H p = none) : Same H (upd H p o) := fun b u e => by rw [upd_ne (ne_of_none e h)]; exact e
theorem same_keep {H H' : Hp} {p : Addr} {o : HO} (s : Same H H') (h : H p = none) : Same H (upd H' p o) := fun b u e => by rw [upd_ne (ne_of_none e h)]; exact s b u e
theorem lc_rel {J : It} {H1 : Hp} {D : Addr} {σ : L2.St} {vs : List Nat} {g : TG} {te : TE} {Qf : Hp → Prop} (hD : H1 D = none) (n : Nat) (hn : n ≤ sizeLine) (Pr : Nat → V → Hp → Prop)
    (stay : ∀ k v H H', k < n → Same H H' → Pr k v H → Pr k v H')
    (hgo : ∀ i Hh, i < n → Same H1 Hh → J.go i Hh) (hstop : ∀ Hh, Same H1 Hh → J.stop n Hh)
    (turn : ∀ i Hh x H', i < n → Same H1 Hh → (∃ acc, Hh D = some (.lst acc)) → J.yld i Hh x H' → ∀ C : VK, (∀ y H4, Same Hh H4 → Pr i y (hide D H4) → C y H4) → g x (wipe σ vs) H' fun σ2 H2 => wipe σ2 vs = wipe σ vs ∧ te σ2 H2 C)
    (fin : ∀ Hh xs, Same H1 Hh → xs.length = n → (∀ (k : Nat) (v : V), xs[k]? = some v → Pr k v Hh) → Hh D = some (.lst xs) → Qf Hh) :
    ∃ W : Nat → Nat → Hp → Prop, (∃ m, W 0 m (upd H1 D (.lst []))) ∧ ∀ i m H, W i m H →
      (J.stop i H ∧ Qf H) ∨ (J.go i H ∧ ∃ Nx : Hp → Prop, (∀ H', Nx H' → ∃ m', m' < m ∧ W (i + 1) m' H') ∧ ∀ x H', J.yld i H x H' → g x (wipe σ vs) H' fun σ2 H2 => wipe σ2 vs = wipe σ vs ∧ tYes σ2 H2 fun b H3 =>
        if b = true then te σ2 H3 fun y H4 => ∃ acc, H4 D = some (.lst acc) ∧ acc.length < sizeLine ∧ Nx (upd H4 D (.lst (acc ++ [y]))) else Nx H3) := by
  refine ⟨fun i m H => i + m = n ∧ Same H1 H ∧ ∃ xs : List V, xs.length = i ∧ H D = some (.lst xs) ∧ ∀ (k : Nat) (v : V), xs[k]? = some v → Pr k v (hide D H), ⟨n, by omega, same_new hD, [], rfl, upd_same, fun k v e => by simp at e⟩, ?_⟩
  rintro i m H ⟨hm, s1, xs, hl, hx, hp⟩
  by_cases hi : i = n
  · subst hi
    exact .inl ⟨hstop H s1, fin H xs s1 hl (fun k v e => stay k v _ _ (by have := (List.getElem?_eq_some_iff.mp e).1; omega) (hide_same D H) (hp k v e)) hx⟩
  · have hi : i < n := by omega
    refine .inr ⟨hgo i H hi s1, fun H' => ∃ m', m' < m ∧ i + 1 + m' = n ∧ Same H1 H' ∧ ∃ xs : List V, xs.length = i + 1 ∧ H' D = some (.lst xs) ∧ ∀ (k : Nat) (v : V), xs[k]? = some v → Pr k v (hide D H'), fun H' h => ?_, fun x H' hy => ?_⟩
    · obtain ⟨m', h1, h2, h3⟩ := h
      exact ⟨m', h1, h2, h3⟩
    · refine turn i H x H' hi s1 ⟨xs, hx⟩ hy _ fun y H4 s4 p4 => ?_
      refine ⟨xs, s4 _ _ hx, by omega, m - 1, by omega, by omega, same_keep (s1.trans s4) hD, xs ++ [y], by rw [List.length_append, hl]; rfl, upd_same, fun k v e => ?_⟩
      rw [hide_upd]
      by_cases hk : k < xs.length
      · rw [List.getElem?_append_left hk] at e
        exact stay k v _ _ (by omega) (hide_mono s4) (hp k v e)
      · rw [List.getElem?_append_right (by omega)] at e
        have hk0 : k - xs.length = 0 := by
          have := (List.getElem?_eq_some_iff.mp e).1
          simp at this; omega
        rw [hk0] at e
        have e := Option.some.inj e
        subst e
        have : k = i := by omega
        subst this
        exact p4
theorem lc_val {J : It} {H1 : Hp} {D : Addr} {σ : L2.St} {vs : List Nat} {g : TG} {te : TE} {Qf : Hp → Prop} (hD : H1 D = none) (n : Nat) (hn : n ≤ sizeLine) (val : Nat → V)
    (hgo : ∀ i Hh, i < n → Same H1 Hh → J.go i Hh) (hstop : ∀ Hh, Same H1 Hh → J.stop n Hh)
    (turn : ∀ i Hh x H', i < n → Same H1 Hh → J.yld i Hh x H' → ∀ C : VK, (∀ H4, Same Hh H4 → C (val i) H4) → g x (wipe σ vs) H' fun σ2 H2 => wipe σ2 vs = wipe σ vs ∧ te σ2 H2 C)
    (fin : ∀ Hh, Same H1 Hh → Hh D = some (.lst ((List.range n).map val)) → Qf Hh) :
    ∃ W : Nat → Nat → Hp → Prop, (∃ m, W 0 m (upd H1 D (.lst []))) ∧ ∀ i m H, W i m H →
      (J.stop i H ∧ Qf H) ∨ (J.go i H ∧ ∃ Nx : Hp → Prop, (∀ H', Nx H' → ∃ m', m' < m ∧ W (i + 1) m' H') ∧ ∀ x H', J.yld i H x H' → g x (wipe σ vs) H' fun σ2 H2 => wipe σ2 vs = wipe σ vs ∧ tYes σ2 H2 fun b H3 =>
        if b = true then te σ2 H3 fun y H4 => ∃ acc, H4 D = some (.lst acc) ∧ acc.length < sizeLine ∧ Nx (upd H4 D (.lst (acc ++ [y]))) else Nx H3) := by
  refine lc_rel hD n hn (fun k v _ => v = val k) (fun _ _ _ _ _ _ h => h) hgo hstop (fun i Hh x H' hi s1 _ hy C hC => turn i Hh x H' hi s1 hy C fun H4 s4 => hC _ H4 s4 rfl) fun Hh xs s1 hl hp hx => fin Hh s1 ?_
  have : xs = (List.range n).map val := by
    refine List.ext_getElem? fun k => ?_
    by_cases hk : k < n
    · rw [List.getElem?_map, List.getElem?_range hk]
      have e := List.getElem?_eq_getElem (l := xs) (i := k) (by omega)
      rw [e, hp k _ e]; rfl
    · rw [List.getElem?_eq_none (by omega), List.getElem?_eq_none (by rw [List.length_map, List.length_range]; omega)]
  rw [← this]; exact hx
theorem pe_gi {X : Cx} {x : Str} {i : Int} {tk : Tok} {pos : Pos} (hg : Gl X x) (hm : X.mg x = some (.int i tk)) (hd : (x == ("__debug__" : Str)) = false := by decide) : PE X (.Name x pos) (tC (.int i)) := pe_glob hg hm (show RelV (.int i) (.int i tk) from ⟨tk, rfl⟩) hd
theorem pe_gr {X : Cx} {x : Str} {a : Addr} {pos : Pos} (hg : Gl X x) (hm : X.mg x = some (.ref a)) (hd : (x == ("__debug__" : Str)) = false := by decide) : PE X (.Name x pos) (tC (.ref a)) := pe_glob hg hm (show RelV (.ref a) (.ref a) from rfl) hd
theorem ixL {X : Cx} {K : PySem.W.Frag} (h : X.K = K) : IxR X (rIxL K) := by subst h; exact ix_list
theorem pfldK {X : Cx} {K : PySem.W.Frag} {e : Expr} {f : Str} {pos : Pos} {ta : TE} (h : X.K = K) (he : PE X e ta) (hb : attributeBase e f X.env (eval e X.env) = eval e X.env) : PE X (.Attribute e f pos) (tFld K ta f) := by subst h; exact pe_fld he hb
theorem map_int_get {l : List Int} {i : Nat} {x : V} (h : (l.map V.int)[i]? = some x) : x = .int (l.getD i 0) ∧ i < l.length := by
  rw [List.getElem?_map] at h
  cases e : l[i]? with
  | none => rw [e] at h; cases h
  | some z =>
    rw [e] at h
    refine ⟨?_, (List.getElem?_eq_some_iff.mp e).1⟩
    rw [List.getD_eq_getElem?_getD, e]
    exact (Option.some.inj h).symm
theorem int_get {l : List Int} {i : Nat} (h : i < l.length) : (l.map V.int)[i]? = some (.int (l.getD i 0)) := by
  rw [List.getElem?_map, List.getElem?_eq_getElem h, List.getD_eq_getElem?_getD, List.getElem?_eq_getElem h]; rfl
end Wg
namespace Wg
open PySem PySem.Spec PyProof.Rows L2
local macro_rules | `(tactic| walk_at "rd") => `(tactic| simp only [L2.start, tSeq, tNext, tAsg, tRet, tRetN, tOp, tC, tVar, tUn, tCB, tCons, tNil, tCall, tMeth, tFld, sFld, tIf, tIfS, tB, tTest, tNot, tAnd, tOr, tDrop, tBM0, tBM, tLst, tAug, rU, rI, rI0, rIxL, rIxT, rSum, rAll, rAppend, gName, gTup, gCons, gNil, tChain, tYes, tIsN, tNotN, iList, iRng1, iRng2, iRng3, iEnum, iZip, tSl, tPart, tNoPart, rSlL, tRng2, rCat, wipe, List.map_cons, List.map_nil, List.length_cons, List.length_nil, List.replicate, List.append_nil, List.nil_append, List.cons_append, List.getElem?_cons_zero, List.getElem?_cons_succ, List.set_cons_zero, List.set_cons_succ, Nat.zero_add, Nat.reduceAdd, Nat.reduceSub, Nat.sub_zero, Nat.sub_self, Option.some.injEq, V.int.injEq, V.ref.injEq, V.bl.injEq, exists_eq_left', exists_eq_left, exists_and_left, exists_and_right, exists_eq', exists_eq, true_and, and_true, List.cons.injEq, reduceCtorEq, false_and, and_false, exists_false, exists_const])
section
variable {P : Program} {w : World} {K : PySem.W.Frag} {mg : Str → Option Value} {base : Heap} {A : Adr}
def fitsP (w n : Int) : Bool := decide (-(2 ^ (w - 1).toNat) ≤ n) && decide (n < 2 ^ (w - 1).toNat)
def spFits : Sp := fun vs H Q _ => ∃ w n : Int, vs = [.int w, .int n] ∧ (1 ≤ w ∧ w ≤ 25) ∧ Q (.bl (fitsP w n)) H
theorem sc_fits : FnScope ["width", "number", "half"] ["width", "number"] (defScope s_fits) := ⟨rfl, rfl, rfl, by decide +kernel, rfl, by decide +kernel, by decide +kernel⟩
theorem ok_fits (T : Txt K mg A) : FnOk P w K mg base CX0 1 A.f_fits A.d_fits ["width", "number"] spFits := by
  refine T.F_fits.ok sc_fits (fun vs H Q E h => ?_) (fun cdv Ar outer s H vs Q E hr h => ?_)
  · obtain ⟨w, n, rfl, _⟩ := h
    rfl
  · obtain ⟨w, n, rfl, ⟨h1, h2⟩, k⟩ := h
    refine ⟨_, pss_cons (ps_set (i := 2) sc_fits.nd rfl (Or.inl rfl) (pe_op op_shl pe_int (pe_op op_sub (pv 0) pe_int)))
      (pss_one (ps_ret (pe_chain op_le op_lt (pe_un un_neg (pv 2)) (pv 1) (pv 2)))), ?_⟩
    walk_at "rd"
    refine ⟨⟨by omega, by omega, by decide⟩, ?_⟩
    unfold fitsP at k
    rw [Int.one_mul]
    by_cases q : -(2 ^ (w - 1).toNat) ≤ n
    · rw [decide_eq_true q, Bool.true_and] at k
      rw [decide_eq_true q]
      exact iteT k
    · rw [decide_eq_false q, Bool.false_and] at k
      rw [decide_eq_false q]
      exact iteF k
def spAllFit (K : PySem.W.Frag) : Sp := fun vs H Q _ => ∃ (w : Int) (a : Addr) (ns : List Int), vs = [.int w, .ref a] ∧ SqL K H a (ns.map V.int) ∧ (1 ≤ w ∧ w ≤ 25) ∧ ns.length ≤ 1024 ∧ ∀ H', Same H H' → Q (.bl (ns.all (fitsP w))) H'
theorem sc_all_fit : FnScope ["width", "numbers", "number"] ["width", "numbers"] (defScope s_all_fit) := ⟨rfl, rfl, rfl, by decide +kernel, rfl, by decide +kernel, by decide +kernel⟩
theorem ok_all_fit (T : Txt K mg A) : FnOk P w K mg base CX0 2 A.f_all_fit A.d_all_fit ["width", "numbers"] (spAllFit K) := by
  refine T.F_all_fit.ok sc_all_fit (fun vs H Q E h => ?_) (fun cdv Ar outer s H vs Q E hr h => ?_)
  · obtain ⟨w, a, ns, rfl, _⟩ := h
    rfl
  · obtain ⟨w, a, ns, rfl, hS, hw, hl, k⟩ := h
    refine ⟨_, pss_one (ps_ret (pe_callB (cr_all rfl) rfl T.z_all (by decide +kernel : bootBuiltins "all" = some (.builtin "all"))
      (pa_cons (pe_lc (own := [("number", 2)]) rfl sc_all_fit.nd (pi_list (pv 1)) (blkOk_by (by kernel_rfl)) (fun _ _ _ _ _ => pg_name (i := 2) sc_all_fit.nd rfl (Or.inl rfl)) (fun _ _ _ _ _ => pts_nil)
        (fun _ _ _ _ _ => pe_call (ok_fits T) hr rfl T.m_fits T.F_fits.kp T.b_fits .nil pass0 (pa_cons (pv 0) (pa_cons (pv 2) pa_nil)))) pa_nil))), ?_⟩
    refine ⟨_, rfl, a, rfl, ⟨_, hS⟩, fun D hD => ?_⟩
    refine lc_val (J := Itl K a) hD ns.length (by rw [sizeLine_eq]; omega) (fun i => .bl (fitsP w (ns.getD i 0))) (fun i Hh hi s1 => ⟨_, _, s1.seq hS, int_get hi⟩) (fun Hh s1 => ⟨_, s1.seq hS, by simp⟩) ?_ ?_
    · rintro i Hh x H' hi s1 ⟨rfl, hx⟩ C hC
      have hx := (map_int_get (hx _ (s1.seq hS))).1
      subst hx
      refine ⟨rfl, ?_⟩
      exact ⟨_, rfl, _, rfl, w, _, rfl, hw, hC _ (Same.refl _)⟩
    · intro Hh s1 hx
      refine ⟨D, ns.map (fitsP w), rfl, SqL.of (xs := _) (hx.trans ?_), ?_⟩
      · congr 2
        refine List.ext_getElem (by simp) fun i h1 h2 => ?_
        simp at h2
        simp [List.getD_eq_getElem?_getD, List.getElem?_eq_getElem h2]
      · have e : (ns.map (fitsP w)).all id = ns.all (fitsP w) := by rw [List.all_map]; rfl
        rw [e]
        exact k _ s1
def spFold : Sp := fun vs H Q _ => ∃ e : Int, vs = [.int e] ∧ Q (.int (Sound.fold e)) H
theorem sc_folded_rest : FnScope ["rest"] ["rest"] (defScope s_folded_rest) := ⟨rfl, rfl, rfl, by decide +kernel, rfl, by decide +kernel, by decide +kernel⟩
theorem ok_folded_rest (T : Txt K mg A) : FnOk P w K mg base CX0 1 A.f_folded_rest A.d_folded_rest ["rest"] spFold := by
  refine T.F_folded_rest.ok sc_folded_rest (fun vs H Q E h => ?_) (fun cdv Ar outer s H vs Q E hr h => ?_)
  · obtain ⟨e, rfl, _⟩ := h
    rfl
  · obtain ⟨e, rfl, k⟩ := h
    refine ⟨_, pss_one (ps_ret (pe_ifExp (pt_cmpR op_ge (pv 0) pe_int (nomark _)) (pe_op op_mul pe_int (pv 0)) (pe_op op_sub (pe_op op_mul (pe_un un_neg pe_int) (pv 0)) pe_int))), ?_⟩
    walk_at "rd"
    unfold Sound.fold at k
    by_cases q : 0 ≤ e
    · rw [decide_eq_true q]
      refine iteT ⟨.inl ⟨by decide, by decide⟩, ?_⟩
      rw [if_neg (by omega)] at k
      have e1 : (((2 * e).toNat : Nat) : Int) = 2 * e := by omega
      rw [← e1]; exact k
    · rw [decide_eq_false q]
      refine iteF ⟨.inl ⟨by decide, by decide⟩, ?_⟩
      rw [if_pos (by omega)] at k
      have e1 : (((-2 * e - 1).toNat : Nat) : Int) = -2 * e - 1 := by omega
      rw [← e1]; exact k
def spCanSplit : Sp := fun vs H Q _ => ∃ n p r : Nat, vs = [.int n, .int p, .int r] ∧ (n ≤ 1024 ∧ r ≤ 7) ∧ Q (.bl (canSplit n p r)) H
theorem sc_can_split : FnScope ["n", "order", "r", "size"] ["n", "order", "r"] (defScope s_can_split) := ⟨rfl, rfl, rfl, by decide +kernel, rfl, by decide +kernel, by decide +kernel⟩
theorem ok_can_split (T : Txt K mg A) : FnOk P w K mg base CX0 1 A.f_can_split A.d_can_split ["n", "order", "r"] spCanSplit := by
  refine T.F_can_split.ok sc_can_split (fun vs H Q E h => ?_) (fun cdv Ar outer s H vs Q E hr h => ?_)
  · obtain ⟨n, p, r, rfl, _⟩ := h
    rfl
  · obtain ⟨n, p, r, rfl, ⟨hn, hr7⟩, k⟩ := h
    refine ⟨_, pss_cons (ps_set (i := 3) sc_can_split.nd rfl (Or.inl rfl) (pe_op op_shr (pv 0) (pv 2)))
      (pss_one (ps_ret (pe_and (pe_cmpR op_le (pv 2) (pe_gi rfl T.g_GREATEST_SPLIT) (nomark _)) (pe_and (pe_cmpR op_eq (pe_op op_shl (pv 3) (pv 2)) (pv 0) (nomark _)) (pe_one (pe_cmpR op_ge (pv 3) (pv 1) (nomark _))))))), ?_⟩
    walk_at "rd"
    simp only [tAndV, rEq, V.bl.injEq, exists_eq_left', scal, true_and]
    walk_at "rd"
    have e1 : ((n : Int) / 2 ^ (r : Int).toNat) = ((n / 2 ^ r : Nat) : Int) := by
      rw [Int.toNat_natCast]; simp
    rw [e1]
    have hdn : n / 2 ^ r ≤ n := Nat.div_le_self _ _
    refine ⟨by omega, ?_⟩
    unfold canSplit at k
    by_cases q1 : r ≤ 6
    · rw [decide_eq_true q1, Bool.true_and] at k
      rw [decide_eq_true (show (r : Int) ≤ 6 by omega)]
      refine iteT ⟨⟨by omega, by omega, by rw [Int.natAbs_natCast]; exact Nat.lt_of_le_of_lt (Nat.le_trans hdn hn) (by decide)⟩, ?_⟩
      have e2 : ((n / 2 ^ r : Nat) : Int) * 2 ^ (r : Int).toNat = ((n / 2 ^ r * 2 ^ r : Nat) : Int) := by
        rw [Int.toNat_natCast]; simp
      rw [e2]
      by_cases q2 : n / 2 ^ r * 2 ^ r = n
      · rw [decide_eq_true q2, Bool.true_and] at k
        rw [q2]
        refine ⟨rfl, _, rfl, ?_⟩
        rw [decide_eq_true (show V.int (n : Int) = V.int (n : Int) from rfl)]
        refine iteT ?_
        have : decide ((p : Int) ≤ ((n / 2 ^ r : Nat) : Int)) = decide (p ≤ n / 2 ^ r) := by
          rw [Bool.eq_iff_iff, decide_eq_true_eq, decide_eq_true_eq]; omega
        rw [this]; exact k
      · rw [decide_eq_false q2, Bool.false_and] at k
        refine ⟨rfl, _, rfl, ?_⟩
        rw [decide_eq_false (show ¬ V.int ((n / 2 ^ r * 2 ^ r : Nat) : Int) = V.int (n : Int) from fun e => q2 (by have := V.int.inj e; omega))]
        exact iteF k
    · rw [decide_eq_false q1, Bool.false_and] at k
      rw [decide_eq_false (show ¬ (r : Int) ≤ 6 by omega)]
      exact iteF k
def spOrder : Sp := fun vs H Q _ => ∃ k : Nat, vs = [.int k] ∧ (2 ≤ k ∧ k ≤ 10) ∧ Q (.int ((if k ≤ 6 then k - 2 else k - 6 : Nat) : Int)) H
theorem sc_order_of_kind : FnScope ["kind"] ["kind"] (defScope s_order_of_kind) := ⟨rfl, rfl, rfl, by decide +kernel, rfl, by decide +kernel, by decide +kernel⟩
theorem ok_order_of_kind (T : Txt K mg A) : FnOk P w K mg base CX0 1 A.f_order_of_kind A.d_order_of_kind ["kind"] spOrder := by
  refine T.F_order_of_kind.ok sc_order_of_kind (fun vs H Q E h => ?_) (fun cdv Ar outer s H vs Q E hr h => ?_)
  · obtain ⟨e, rfl, _⟩ := h
    rfl
  · obtain ⟨e, rfl, ⟨h1, h2⟩, k⟩ := h
    refine ⟨_, pss_one (ps_ret (pe_ifExp (pt_cmpR op_lt (pv 0) (pe_gi rfl T.g_FIRST_LINEAR) (nomark _)) (pe_op op_sub (pv 0) (pe_gi rfl T.g_FIRST_FIXED)) (pe_op op_add (pe_op op_sub (pv 0) (pe_gi rfl T.g_FIRST_LINEAR)) pe_int))), ?_⟩
    walk_at "rd"
    by_cases q : e ≤ 6
    · rw [decide_eq_true (show (e : Int) < 7 by omega)]
      rw [if_pos q] at k
      have e1 : ((e : Int) - 2) = ((e - 2 : Nat) : Int) := by omega
      refine iteT ?_
      rw [e1]; exact k
    · rw [decide_eq_false (show ¬ (e : Int) < 7 by omega)]
      rw [if_neg q] at k
      have e1 : ((e : Int) - 7 + 1) = ((e - 6 : Nat) : Int) := by omega
      refine iteF ?_
      rw [e1]; exact k
def spNearest : Sp := fun vs H Q _ => ∃ a b : Int, vs = [.int a, .int b] ∧ 0 < b ∧ b.natAbs < 2 ^ 2000 ∧ Q (.int (nearestP a b)) H
theorem sc_nearest : FnScope ["number", "divisor", "whole"] ["number", "divisor"] (defScope s_nearest) := ⟨rfl, rfl, rfl, by decide +kernel, rfl, by decide +kernel, by decide +kernel⟩
theorem ok_nearest (T : Txt K mg A) : FnOk P w K mg base CX0 1 A.f_nearest A.d_nearest ["number", "divisor"] spNearest := by
  refine T.F_nearest.ok sc_nearest (fun vs H Q E h => ?_) (fun cdv Ar outer s H vs Q E hr h => ?_)
  · obtain ⟨a, b, rfl, _⟩ := h
    rfl
  · obtain ⟨a, b, rfl, hb, hb2, k⟩ := h
    refine ⟨_, pss_cons (ps_set (i := 2) sc_nearest.nd rfl (Or.inl rfl) (pe_op op_fdivB (pe_op op_add (pe_op op_mul pe_int (pe_callB call_abs rfl T.z_abs (by decide +kernel : bootBuiltins "abs" = some (.builtin "abs")) (pa_cons (pv 0) pa_nil))) (pv 1)) (pe_op op_mul pe_int (pv 1))))
      (pss_one (ps_ret (pe_ifExp (pt_cmpR op_ge (pv 0) pe_int (nomark _)) (pv 2) (pe_un un_neg (pv 2))))), ?_⟩
    walk_at "rd"
    refine ⟨.inl ⟨by decide, by decide⟩, .inl ⟨by decide, by decide⟩, ⟨by omega, ?_⟩, ?_⟩
    · refine (Nat.log2_lt (by omega)).mpr ?_
      have : (2 * b).natAbs = 2 * b.natAbs := by omega
      rw [this]
      have h1 : 2 * b.natAbs < 2 * 2 ^ 2000 := by omega
      have h2 : (2 : Nat) * 2 ^ 2000 = 2 ^ 2001 := by rw [← Nat.pow_succ']
      rw [h2] at h1
      exact Nat.lt_of_lt_of_le h1 (Nat.pow_le_pow_right (by decide) (by decide))
    · unfold nearestP absP at k
      by_cases q : 0 ≤ a
      · rw [decide_eq_true q]
        rw [if_pos q] at k
        exact iteT k
      · rw [decide_eq_false q]
        rw [if_neg q] at k
        exact iteF k
def gf (f h : V) : List (Str × V) := [("factors", f), ("shift", h)]
theorem gf_put (f h : V) : putF "shift" h (putF "factors" f []) = gf f h := by
  show putF "shift" h [(("factors" : Str), f)] = _
  unfold putF
  rw [if_neg (by decide)]
  rfl
theorem gf_f (f h : V) : (gf f h).lookup ("factors" : Str) = some f := rfl
theorem gf_h (f h : V) : (gf f h).lookup ("shift" : Str) = some h := rfl
theorem gf_at (f h : V) : (gf f h).lookup ("at" : Str) = none := rfl
theorem gf_all (f h : V) : (gf f h).lookup ("all_rests" : Str) = none := rfl
def IsGuess (K : PySem.W.Frag) (C : Addr) (H : Hp) (x : Addr) (a : List Int) (h : Nat) : Prop := ∃ dx p, H x = some (.ins C dx (gf (.ref p) (.int h))) ∧ SqL K H p (a.map V.int)
theorem IsGuess.same {K : PySem.W.Frag} {C : Addr} {H H' : Hp} {x : Addr} {a : List Int} {h : Nat} (s : Same H H') (g : IsGuess K C H x a h) : IsGuess K C H' x a h := by
  obtain ⟨dx, p, h1, h2⟩ := g
  exact ⟨dx, p, s _ _ h1, s.seq h2⟩
def spGuess (C : Addr) : Sp := fun vs H Q _ => ∃ (p dx : Addr) (f h : V), vs = [.ref p, f, h] ∧ H p = some (.ins C dx []) ∧ Q .non (upd H p (.ins C dx (gf f h)))
theorem sc_Guess_init : FnScope ["self", "factors", "shift"] ["self", "factors", "shift"] (defScope s_Guess_init) := ⟨rfl, rfl, rfl, by decide +kernel, rfl, by decide +kernel, by decide +kernel⟩
theorem ok_Guess_init (T : Txt K mg A) : FnOk P w K mg base CX0 1 A.f_Guess_init A.d_Guess_init ["self", "factors", "shift"] (spGuess A.c_Guess) := by
  refine T.F_Guess_init.ok sc_Guess_init (fun vs H Q E h => ?_) (fun cdv Ar outer s H vs Q E hr h => ?_)
  · obtain ⟨p, dx, f, h, rfl, _⟩ := h
    rfl
  · obtain ⟨p, dx, f, h, rfl, hp, k⟩ := h
    refine ⟨_, pss_cons (ps_fld (pv 0) (pv 1) rfl) (pss_one (ps_fld (pv 0) (pv 2) rfl)), ?_⟩
    refine ⟨_, rfl, _, rfl, p, A.c_Guess, dx, [], rfl, hp, T.l_Guess, T.n_Guess_factors, (by show 0 < 1000; decide), ?_⟩
    refine ⟨_, rfl, _, rfl, p, A.c_Guess, dx, _, rfl, upd_same, T.l_Guess, T.n_Guess_shift, (by show 1 < 1000; decide), ?_⟩
    rw [gf_put, upd_upd]
    exact k
theorem upd_made {H : Hp} {x dx C : Addr} {fs : List (Str × V)} : upd (upd (upd H dx (.own x)) x (.ins C dx [])) x (.ins C dx fs) = upd (upd H dx (.own x)) x (.ins C dx fs) := upd_upd
theorem same_made {H : Hp} {x dx : Addr} {o u : HO} (hx : H x = none) (hd : H dx = none) : Same H (upd (upd H dx o) x u) := fun b v e => by
  rw [upd_ne (ne_of_none e hx), upd_ne (ne_of_none e hd)]; exact e
theorem atTot_take : ∀ (a y : List Int) (i t : Nat), i < a.length → atTot (a.take (i + 1)) y t = atTot (a.take i) y t + a.getD i 0 * y.getD (t - 1 - i) 0
  | [], y, i, t, h => by simp at h
  | f :: fs, y, 0, t, h => by simp [atTot]
  | f :: fs, y, i + 1, t, h => by
    rw [List.take_succ_cons, List.take_succ_cons]
    simp only [atTot]
    rw [atTot_take fs y i (t - 1) (by simpa using h)]
    have e : t - 1 - 1 - i = t - 1 - (i + 1) := by omega
    rw [e, List.getD_cons_succ]
    omega
def spAt (K : PySem.W.Frag) (C : Addr) : Sp := fun vs H Q _ => ∃ (x q : Addr) (a y : List Int) (h t : Nat), vs = [.ref x, .ref q, .int t] ∧ IsGuess K C H x a h ∧ SqL K H q (y.map V.int) ∧ (a.length ≤ t ∧ t ≤ y.length) ∧ Bd 2048 a ∧ Q (.int (atP a h y t)) H
theorem sc_Guess_at : FnScope ["self", "numbers", "place", "total", "before", "factor"] ["self", "numbers", "place"] (defScope s_Guess_at) := ⟨rfl, rfl, rfl, by decide +kernel, rfl, by decide +kernel, by decide +kernel⟩
theorem ok_Guess_at (T : Txt K mg A) : FnOk P w K mg base CX0 1 A.f_Guess_at A.d_Guess_at ["self", "numbers", "place"] (spAt K A.c_Guess) := by
  refine T.F_Guess_at.ok sc_Guess_at (fun vs H Q E h => ?_) (fun cdv Ar outer s H vs Q E hr h => ?_)
  · obtain ⟨x, q, a, y, h, t, rfl, _⟩ := h
    rfl
  · obtain ⟨x, q, a, y, h, t, rfl, ⟨dx, p, hx, hp⟩, hq, ⟨h1, h2⟩, hb, k⟩ := h
    refine ⟨_, pss_cons (ps_set (i := 3) sc_Guess_at.nd rfl (Or.inl rfl) pe_int) (pss_cons (ps_set (i := 4) sc_Guess_at.nd rfl (Or.inl rfl) (pv 2))
      (pss_cons (ps_for PassesOwn.never rfl (pi_list (pe_fld (pv 0) rfl)) (pg_name (i := 5) sc_Guess_at.nd rfl (Or.inl rfl))
        (pss_cons (ps_aug (i := 4) sc_Guess_at.nd rfl (Or.inl rfl) pe_int iop_sub) (pss_one (ps_aug (i := 3) sc_Guess_at.nd rfl (Or.inl rfl) (pe_op op_mul (pv 5) (pe_ix ix_list (pv 1) (pv 4) (fun _ _ => rfl))) iop_add))))
      (pss_one (ps_ret (pe_op op_shr (pv 3) (pe_fld (pv 0) rfl)))))), ?_⟩
    refine ⟨_, rfl, _, rfl, x, A.c_Guess, dx, _, _, rfl, hx, T.l_Guess, T.n_Guess_factors, gf_f _ _, p, rfl, ⟨_, hp⟩, ?_⟩
    refine for_list (K := K) (a := p) (xs := a.map V.int) (fun i σ H' => H' = H ∧ ∃ v : Option V, σ = [some (.ref x), some (.ref q), some (.int t), some (.int (atTot (a.take i) y t)), some (.int ((t : Int) - i)), v])
      ⟨rfl, none, by simp [L2.start, atTot]⟩ (fun i σ H' _ ⟨e, _⟩ => by rw [e]; exact hp) ?_ ?_
    · rintro i y' σ H' hi ⟨rfl, v, rfl⟩
      obtain ⟨rfl, hl⟩ := map_int_get hi
      have hm := hb _ (show a.getD i 0 ∈ a by rw [List.getD_eq_getElem?_getD, List.getElem?_eq_getElem hl]; exact List.getElem_mem hl)
      have e1 : (t : Int) - i - 1 = ((t - 1 - i : Nat) : Int) := by omega
      refine ⟨_, rfl, _, _, rfl, rfl, _, rfl, _, rfl, _, rfl, _, rfl, q, _, _, _, rfl, rfl, hq, at_of e1 (int_get (by omega)), _, _, rfl, rfl, .inl ⟨by omega, by omega⟩, _, _, rfl, rfl, rfl, some (.int (a.getD i 0)), ?_⟩
      rw [atTot_take a y i t hl]
      have e2 : (t : Int) - i - 1 = (t : Int) - ((i + 1 : Nat) : Int) := by omega
      rw [← e2]
      rfl
    · rintro σ H' ⟨rfl, v, rfl⟩
      refine ⟨_, rfl, _, rfl, x, A.c_Guess, dx, _, _, rfl, hx, T.l_Guess, T.n_Guess_shift, gf_h _ _, _, _, rfl, rfl, (by omega), ?_⟩
      rw [List.length_map, List.take_length]
      exact k
def spAllRests (K : PySem.W.Frag) (C : Addr) : Sp := fun vs H Q _ => ∃ (x q : Addr) (a y : List Int) (h : Nat), vs = [.ref x, .ref q] ∧ IsGuess K C H x a h ∧ SqL K H q (y.map V.int) ∧ a.length ≤ y.length ∧ y.length ≤ 1024 ∧ Bd 2048 a ∧
  ∀ D H', H D = none → Same H H' → H' D = some (.lst ((restsP a h y).map V.int)) → Q (.ref D) H'
theorem sc_Guess_all_rests : FnScope ["self", "numbers", "t"] ["self", "numbers"] (defScope s_Guess_all_rests) := ⟨rfl, rfl, rfl, by decide +kernel, rfl, by decide +kernel, by decide +kernel⟩
theorem ok_Guess_all_rests (T : Txt K mg A) : FnOk P w K mg base CX0 2 A.f_Guess_all_rests A.d_Guess_all_rests ["self", "numbers"] (spAllRests K A.c_Guess) := by
  refine T.F_Guess_all_rests.ok sc_Guess_all_rests (fun vs H Q E h => ?_) (fun cdv Ar outer s H vs Q E hr h => ?_)
  · obtain ⟨x, q, a, y, h, rfl, _⟩ := h
    rfl
  · obtain ⟨x, q, a, y, h, rfl, hg, hq, hl, hl2, hb, k⟩ := h
    obtain ⟨dx, p, hx, hp⟩ := id hg
    refine ⟨_, pss_one (ps_ret (pe_lc (own := [("t", 2)]) rfl sc_Guess_all_rests.nd
      (pi_range2 rfl T.z_range (pa_cons (pe_callB call_len_seq (by rfl) T.z_len PySem.boot_len (pa_cons (pe_fld (pv 0) rfl) pa_nil)) (pa_cons (pe_callB call_len_seq (by rfl) T.z_len PySem.boot_len (pa_cons (pv 1) pa_nil)) pa_nil)))
      (blkOk_by (by kernel_rfl)) (fun _ _ _ _ _ => pg_name (i := 2) sc_Guess_all_rests.nd rfl (Or.inl rfl)) (fun _ _ _ _ _ => pts_nil)
      (fun _ _ _ _ _ => pe_op op_sub (pe_ix (ixL (K := K) rfl) (pv 1) (pv 2) (fun _ _ => rfl)) (pe_meth (pv 0) T.l_Guess T.e_Guess_at (ok_Guess_at T) hr T.b_Guess_at .nil pass0 (pa_cons (pv 1) (pa_cons (pv 2) pa_nil)))))), ?_⟩
    refine ⟨_, rfl, x, A.c_Guess, dx, _, _, rfl, hx, T.l_Guess, T.n_Guess_factors, gf_f _ _, p, _, rfl, .inl hp, _, rfl, q, _, rfl, .inl hq, _, _, rfl, ?_, fun D hD => ?_⟩
    · rw [List.length_map, List.length_map]
      have e62 : (2 : Int) ^ 62 = 4611686018427387904 := by decide
      omega
    have en : ((((y.map V.int).length : Nat) : Int) - (((a.map V.int).length : Nat) : Int)).toNat = y.length - a.length := by rw [List.length_map, List.length_map]; omega
    rw [en]
    refine lc_val (J := Itr ((a.map V.int).length : Nat) (y.length - a.length)) hD (y.length - a.length) (by rw [sizeLine_eq]; omega) (fun i => .int (y.getD (a.length + i) 0 - atP a h y (a.length + i))) (fun i Hh hi s1 => hi) (fun Hh s1 => Nat.le_refl _) ?_ ?_
    · rintro i Hh z H' hi s1 ⟨rfl, rfl⟩ C hC
      have e1 : (((a.map V.int).length : Nat) : Int) + (i : Nat) = ((a.length + i : Nat) : Int) := by rw [List.length_map]; omega
      rw [e1]
      refine ⟨rfl, ?_⟩
      refine ⟨_, rfl, _, rfl, q, _, _, _, rfl, rfl, s1.seq hq, atI_nat (int_get (by omega)), _, rfl, x, dx, _, rfl, s1 _ _ hx, gf_at _ _, _, rfl, _, rfl, x, q, a, y, h, _, rfl, hg.same s1, s1.seq hq, ⟨by omega, by omega⟩, hb, _, _, rfl, rfl, ?_⟩
      exact hC _ (Same.refl _)
    · intro Hh s1 hx'
      refine k D Hh hD s1 (hx'.trans ?_)
      unfold restsP
      rw [List.map_map]
      rfl
def spFixed (K : PySem.W.Frag) (C : Addr) : Sp := fun vs H Q _ => ∃ p : Nat, vs = [.int p] ∧ p ≤ 4 ∧ ∀ x H', H x = none → Same H H' → IsGuess K C H' x (Sound.FIXED.getD p []) 0 → Q (.ref x) H'
theorem sc_fixed_guess : FnScope ["order"] ["order"] (defScope s_fixed_guess) := ⟨rfl, rfl, rfl, by decide +kernel, rfl, by decide +kernel, by decide +kernel⟩
theorem fixed_at (T : Txt K mg A) {p : Nat} (h : p ≤ 4) (H : Hp) : ∃ b, atI [V.ref A.a_FIXED_0, V.ref A.a_FIXED_1, V.ref A.a_FIXED_2, V.ref A.a_FIXED_3, V.ref A.a_FIXED_4] (p : Int) = some (V.ref b) ∧ SqT K H b ((Sound.FIXED.getD p []).map V.int) := by
  rcases (by omega : p = 0 ∨ p = 1 ∨ p = 2 ∨ p = 3 ∨ p = 4) with rfl | rfl | rfl | rfl | rfl
  · exact ⟨_, atI_nat rfl, T.q_FIXED_0 H⟩
  · exact ⟨_, atI_nat rfl, T.q_FIXED_1 H⟩
  · exact ⟨_, atI_nat rfl, T.q_FIXED_2 H⟩
  · exact ⟨_, atI_nat rfl, T.q_FIXED_3 H⟩
  · exact ⟨_, atI_nat rfl, T.q_FIXED_4 H⟩
theorem ok_fixed_guess (T : Txt K mg A) : FnOk P w K mg base CX0 3 A.f_fixed_guess A.d_fixed_guess ["order"] (spFixed K A.c_Guess) := by
  refine T.F_fixed_guess.ok sc_fixed_guess (fun vs H Q E h => ?_) (fun cdv Ar outer s H vs Q E hr h => ?_)
  · obtain ⟨p, rfl, _⟩ := h
    rfl
  · obtain ⟨p, rfl, hp, k⟩ := h
    refine ⟨_, pss_one (ps_ret (pe_make T.k_Guess (ok_Guess_init T) hr rfl T.m_Guess T.b_Guess_init .nil pass0
      (pa_cons (pe_callTy call_list_of rfl T.z_list (by decide +kernel : bootBuiltins "list" = some (.type "list")) (pa_cons (pe_ix ix_tup (pe_gr rfl T.g_FIXED) (pv 0) (fun _ _ => rfl)) pa_nil)) (pa_cons pe_int pa_nil)))), ?_⟩
    obtain ⟨b, hb, hT⟩ := fixed_at T hp H
    refine ⟨_, rfl, A.a_FIXED, _, _, _, rfl, rfl, T.q_FIXED H, hb, b, _, rfl, .inr hT, fun l hl => ?_⟩
    intro x dx hx hdx hne
    refine ⟨x, dx, _, _, rfl, upd_same, rfl, ?_⟩
    rw [upd_made]
    have hx0 : H x = none := by
      cases e : H x with
      | none => rfl
      | some o => rw [same_new hl _ _ e] at hx; cases hx
    refine k x _ hx0 ((same_new hl).trans (same_made hx hdx)) ⟨dx, l, upd_same, SqL.of ?_⟩
    exact same_made hx hdx _ _ upd_same
theorem pgtK {X : Cx} {K : PySem.W.Frag} {pos : Pos} {es : List Expr} {k : Nat} {t : TGs} {n : Nat} (h : X.K = K) (hc : X.calm = true) (hg : PGs X es t)
    (hn : (assignEach es X.env).length = n := by rfl) (hst : (assignEach es X.env).findIdx? (·.1) = none := by rfl) : PG X (.Tuple es k pos) (gTup K n t) := by subst h; exact pg_tup hc hg hn hst
theorem zip_vals (la lb : List Int) (h : la.length = lb.length) : (List.range la.length).map (fun i => V.int (la.getD i 0 * lb.getD i 0)) = (List.zipWith (fun (a b : Int) => a * b) la lb).map V.int := by
  refine List.ext_getElem (by simp; omega) fun i h1 h2 => ?_
  have hi : i < la.length := by simpa using h1
  have hi2 : i < lb.length := by omega
  simp [List.getD_eq_getElem?_getD, List.getElem?_eq_getElem hi, List.getElem?_eq_getElem hi2]
theorem cut_lag {y : List Int} {p i : Nat} (hi : i ≤ p) (hp : p ≤ y.length) : cutV (y.map V.int) (some ((p : Int) - i)) (some ((((y.map V.int).length : Nat) : Int) - i)) = (lagv y p i).map V.int := by
  unfold cutV lagv HT.sIx
  simp only [List.length_map]
  rw [if_neg (by omega), if_neg (by omega), List.map_take, List.map_drop]
  have e1 : min ((p : Int) - i).toNat y.length = p - i := by omega
  have e2 : min (((y.length : Nat) : Int) - i).toNat y.length = y.length - i := by omega
  rw [e1, e2]
  congr 1; omega
theorem lag_bd {B : Int} {y : List Int} {p i : Nat} (h : Bd B y) : Bd B (lagv y p i) := fun x hx => h x (List.mem_of_mem_drop (List.mem_of_mem_take hx))
def spLag (K : PySem.W.Frag) : Sp := fun vs H Q _ => ∃ (q : Addr) (y : List Int) (p lag other : Nat), vs = [.int p, .ref q, .int lag, .int other] ∧ SqL K H q (y.map V.int) ∧ (p ≤ y.length ∧ y.length ≤ 1024 ∧ lag ≤ p ∧ other ≤ p) ∧ Bd 16777216 y ∧ ∀ H', Same H H' → Q (.int (Sound.moment y p lag other)) H'
theorem sc_lagged_product : FnScope ["order", "numbers", "lag", "other", "n", "x", "y"] ["order", "numbers", "lag", "other"] (defScope s_lagged_product) := ⟨rfl, rfl, rfl, by decide +kernel, rfl, by decide +kernel, by decide +kernel⟩
theorem ok_lagged_product (T : Txt K mg A) : FnOk P w K mg base CX0 1 A.f_lagged_product A.d_lagged_product ["order", "numbers", "lag", "other"] (spLag K) := by
  refine T.F_lagged_product.ok sc_lagged_product (fun vs H Q E h => ?_) (fun cdv Ar outer s H vs Q E hr h => ?_)
  · obtain ⟨q, y, p, lag, other, rfl, _⟩ := h
    rfl
  · obtain ⟨q, y, p, lag, other, rfl, hq, ⟨h1, h2, h3, h4⟩, hb, k⟩ := h
    refine ⟨_, pss_cons (ps_set (i := 4) sc_lagged_product.nd rfl (Or.inl rfl) (pe_callB call_len_seq (by rfl) T.z_len PySem.boot_len (pa_cons (pv 1) pa_nil)))
      (pss_one (ps_ret (pe_callB (cr_sum rfl) rfl T.z_sum (by decide +kernel : bootBuiltins "sum" = some (.builtin "sum")) (pa_cons (pe_lc (own := [("x", 5), ("y", 6)]) rfl sc_lagged_product.nd
        (pi_zip rfl T.z_zip (pa_cons (pe_slice sl_list (pv 1) (po_some (pe_op op_sub (pv 0) (pv 2))) (po_some (pe_op op_sub (pv 4) (pv 2)))) (pa_cons (pe_slice sl_list (pv 1) (po_some (pe_op op_sub (pv 0) (pv 3))) (po_some (pe_op op_sub (pv 4) (pv 3)))) pa_nil)))
        (blkOk_by (by kernel_rfl)) (fun _ _ _ _ _ => pgtK (K := K) (n := 2) rfl rfl (pgs_cons (pg_name (i := 5) sc_lagged_product.nd rfl (Or.inl rfl)) (pgs_cons (pg_name (i := 6) sc_lagged_product.nd rfl (Or.inl rfl)) pgs_nil))) (fun _ _ _ _ _ => pts_nil)
        (fun _ _ _ _ _ => pe_op op_mul (pv 5) (pv 6))) pa_nil)))), ?_⟩
    refine ⟨_, rfl, q, _, rfl, .inl hq, ?_⟩
    refine ⟨_, rfl, _, rfl, _, rfl, _, _, rfl, rfl, _, rfl, _, rfl, _, rfl, _, _, rfl, rfl, _, rfl, q, _, rfl, hq, fun pa ha => ?_⟩
    rw [cut_lag h3 h1]
    refine ⟨_, rfl, _, rfl, _, rfl, _, _, rfl, rfl, _, rfl, _, rfl, _, rfl, _, _, rfl, rfl, _, rfl, q, _, rfl, (same_new ha).seq hq, fun pb hb2 => ?_⟩
    rw [cut_lag h4 h1]
    have sab : Same (upd H pa (.lst ((lagv y p lag).map V.int))) (upd (upd H pa (.lst ((lagv y p lag).map V.int))) pb (.lst ((lagv y p other).map V.int))) := same_new hb2
    have sq1 : SqL K (upd (upd H pa (.lst ((lagv y p lag).map V.int))) pb (.lst ((lagv y p other).map V.int))) pa ((lagv y p lag).map V.int) := sab.seq (SqL.of upd_same)
    have sq2 : SqL K (upd (upd H pa (.lst ((lagv y p lag).map V.int))) pb (.lst ((lagv y p other).map V.int))) pb ((lagv y p other).map V.int) := SqL.of upd_same
    refine ⟨pa, pb, _, _, rfl, sq1, sq2, fun D hD => ?_⟩
    have l1 : (lagv y p lag).length = y.length - p := lagv_len h3 h1
    have l2 : (lagv y p other).length = y.length - p := lagv_len h4 h1
    refine lc_val (J := Itz K pa pb) hD (lagv y p lag).length (by rw [sizeLine_eq]; omega) (fun i => .int ((lagv y p lag).getD i 0 * (lagv y p other).getD i 0))
      (fun i Hh hi s1 => ⟨_, _, _, _, s1.seq sq1, s1.seq sq2, int_get hi, int_get (by omega)⟩) (fun Hh s1 => ⟨_, _, s1.seq sq1, s1.seq sq2, .inl (by simp)⟩) ?_ ?_
    · rintro i Hh z H' hi s1 ⟨t, x1, y1, rfl, ht, rfl, hx, hy⟩ C hC
      obtain ⟨rfl, _⟩ := map_int_get (hx _ (s1.seq sq1))
      obtain ⟨rfl, _⟩ := map_int_get (hy _ (s1.seq sq2))
      refine ⟨t, _, rfl, SqT.of upd_same, rfl, _, _, rfl, _, _, rfl, rfl, rfl, ?_⟩
      have b1 := (lag_bd (p := p) (i := lag) hb).getD (by decide) i
      refine ⟨_, rfl, _, rfl, _, _, rfl, rfl, .inl ⟨by omega, by omega⟩, ?_⟩
      exact hC _ (same_new ht)
    · intro Hh s1 hx
      rw [zip_vals _ _ (by omega)] at hx
      refine ⟨D, _, rfl, SqL.of hx, ?_⟩
      have e : (List.zipWith (fun (a b : Int) => a * b) (lagv y p lag) (lagv y p other)).sum = Sound.moment y p lag other := by rw [← sumOf_sum]; rfl
      rw [e]
      exact k _ (((same_new ha).trans sab).trans s1)
def rowP (y : List Int) (p lag : Nat) : List Int := ((List.range p).map fun j => Sound.moment y p lag (j + 1)) ++ [Sound.moment y p lag 0]
def spRow (K : PySem.W.Frag) : Sp := fun vs H Q _ => ∃ (q : Addr) (y : List Int) (p lag : Nat), vs = [.int p, .ref q, .int lag] ∧ SqL K H q (y.map V.int) ∧ (p ≤ y.length ∧ y.length ≤ 1024 ∧ lag ≤ p ∧ p ≤ 4) ∧ Bd 16777216 y ∧
  ∀ D H', H D = none → Same H H' → H' D = some (.lst ((rowP y p lag).map V.int)) → Q (.ref D) H'
theorem sc_normal_row : FnScope ["order", "numbers", "lag", "other"] ["order", "numbers", "lag"] (defScope s_normal_row) := ⟨rfl, rfl, rfl, by decide +kernel, rfl, by decide +kernel, by decide +kernel⟩
theorem ok_normal_row (T : Txt K mg A) : FnOk P w K mg base CX0 2 A.f_normal_row A.d_normal_row ["order", "numbers", "lag"] (spRow K) := by
  refine T.F_normal_row.ok sc_normal_row (fun vs H Q E h => ?_) (fun cdv Ar outer s H vs Q E hr h => ?_)
  · obtain ⟨q, y, p, lag, rfl, _⟩ := h
    rfl
  · obtain ⟨q, y, p, lag, rfl, hq, ⟨h1, h2, h3, h4⟩, hb, k⟩ := h
    refine ⟨_, pss_one (ps_ret (pe_lc (own := [("other", 3)]) rfl sc_normal_row.nd
      (pi_list (pe_op op_cat (pe_callTy (call_list_rng rfl) rfl T.z_list (by decide +kernel : bootBuiltins "list" = some (.type "list")) (pa_cons (pe_rng2 rfl T.z_range (pa_cons pe_int (pa_cons (pe_op op_add (pv 0) pe_int) pa_nil))) pa_nil)) (pe_lst (pa_cons pe_int pa_nil))))
      (blkOk_by (by kernel_rfl)) (fun _ _ _ _ _ => pg_name (i := 3) sc_normal_row.nd rfl (Or.inl rfl)) (fun _ _ _ _ _ => pts_nil)
      (fun _ _ _ _ _ => pe_call (ok_lagged_product T) hr rfl T.m_lagged_product T.F_lagged_product.kp T.b_lagged_product .nil pass0 (pa_cons (pv 0) (pa_cons (pv 1) (pa_cons (pv 2) (pa_cons (pv 3) pa_nil))))))), ?_⟩
    refine ⟨_, rfl, _, _, rfl, rfl, _, _, rfl, fun pr hpr => ?_⟩
    have e62 : (2 : Int) ^ 62 = 4611686018427387904 := by decide
    have ep : ((p : Int) + 1 - 1).toNat = p := by omega
    refine ⟨pr, _, _, rfl, upd_same, by omega, by omega, fun l hl => ?_⟩
    rw [ep]
    refine ⟨(by show 1 ≤ sizeLine; decide), fun b hb2 => ?_⟩
    have hlb : l ≠ b := ne_of_none upd_same hb2
    refine ⟨l, b, _, _, rfl, rfl, by rw [upd_ne hlb]; exact upd_same, upd_same, by rw [List.length_map, List.length_range, sizeLine_eq]; simp; omega, fun c hc => ?_⟩
    have s0 : Same H (upd (upd (upd (upd H pr (.rng 1 ((p : Int) + 1))) l (.lst ((List.range p).map fun k => V.int (1 + (k : Nat))))) b (.lst [V.int 0])) c (.lst (((List.range p).map fun k => V.int (1 + (k : Nat))) ++ [V.int 0]))) :=
      (((same_new hpr).trans (same_new hl)).trans (same_new hb2)).trans (same_new hc)
    refine ⟨c, rfl, ⟨_, SqL.of upd_same⟩, fun D hD => ?_⟩
    have hc' : ∀ Hh, Same _ Hh → SqL K Hh c (((List.range p).map fun k => V.int (1 + (k : Nat))) ++ [V.int 0]) := fun Hh s1 => s1.seq (H := upd (upd (upd (upd H pr (.rng 1 ((p : Int) + 1))) l (.lst ((List.range p).map fun k => V.int (1 + (k : Nat))))) b (.lst [V.int 0])) c (.lst (((List.range p).map fun k => V.int (1 + (k : Nat))) ++ [V.int 0]))) (SqL.of upd_same)
    have hget : ∀ i, i < p + 1 → (((List.range p).map fun k => V.int (1 + (k : Nat))) ++ [V.int 0])[i]? = some (V.int ((if i < p then i + 1 else 0 : Nat) : Int)) := fun i hi => by
      by_cases q : i < p
      · rw [List.getElem?_append_left (by simpa using q), List.getElem?_map, List.getElem?_range q, if_pos q]
        show some (V.int (1 + (i : Int))) = _
        congr 2; omega
      · rw [List.getElem?_append_right (by simp; omega), if_neg q]
        have : i - ((List.range p).map fun k => V.int (1 + (k : Nat))).length = 0 := by simp; omega
        rw [this]; rfl
    refine lc_val (J := Itl K c) hD (p + 1) (by rw [sizeLine_eq]; omega) (fun i => .int (Sound.moment y p lag (if i < p then i + 1 else 0))) (fun i Hh hi s1 => ⟨_, _, hc' Hh s1, hget i hi⟩) (fun Hh s1 => ⟨_, hc' Hh s1, by simp⟩) ?_ ?_
    · rintro i Hh x H' hi s1 ⟨rfl, hx⟩ C hC
      have hx := hx _ (hc' _ s1)
      rw [hget i hi] at hx
      cases hx
      refine ⟨rfl, ?_⟩
      refine ⟨_, rfl, _, rfl, _, rfl, _, rfl, q, y, p, lag, _, rfl, (s0.trans s1).seq hq, ⟨h1, h2, h3, by split <;> omega⟩, hb, fun H5 s5 => ?_⟩
      exact hC _ s5
    · intro Hh s1 hx
      have hD0 : H D = none := by
        cases e : H D with
        | none => rfl
        | some o => rw [s0 _ _ e] at hD; cases hD
      refine k D Hh hD0 (s0.trans s1) (hx.trans ?_)
      congr 2
      unfold rowP
      rw [List.range_succ, List.map_append, List.map_append, List.map_map]
      congr 1
      · refine List.map_congr_left fun i hi => ?_
        have : i < p := by simpa using hi
        show V.int _ = V.int _
        rw [if_pos this]
      · show [V.int _] = [V.int _]
        rw [if_neg (Nat.lt_irrefl p)]
def BdN (e : Nat) (l : List Int) : Prop := ∀ x ∈ l, x.natAbs ≤ 2 ^ e
theorem bits_of {x : Int} {e : Nat} (h : x.natAbs ≤ 2 ^ e) (he : e ≤ 2000) : Builtin.Int.intBits x ≤ 2 ^ 20 := by
  unfold Builtin.Int.intBits
  split
  · exact Nat.zero_le _
  · rename_i hx
    have hne : x.natAbs ≠ 0 := by simpa using hx
    have hlt : x.natAbs < 2 ^ (e + 1) := Nat.lt_of_le_of_lt h (Nat.pow_lt_pow_right (by decide) (Nat.lt_succ_self e))
    have := (Nat.log2_lt hne).mpr hlt
    have e20 : (2 : Nat) ^ 20 = 1048576 := by decide
    omega
theorem BdN.getD {e : Nat} {l : List Int} (h : BdN e l) (i : Nat) : (l.getD i 0).natAbs ≤ 2 ^ e := by
  rw [List.getD_eq_getElem?_getD]
  cases q : l[i]? with
  | none => exact Nat.zero_le _
  | some x => exact h x (List.mem_of_getElem? q)
theorem cmb_bd {e : Nat} {c d x y : Int} (hc : c.natAbs ≤ 2 ^ e) (hd : d.natAbs ≤ 2 ^ e) (hx : x.natAbs ≤ 2 ^ e) (hy : y.natAbs ≤ 2 ^ e) : (c * x - d * y).natAbs ≤ 2 ^ (2 * e + 1) := by
  have h1 : (c * x).natAbs ≤ 2 ^ e * 2 ^ e := by rw [Int.natAbs_mul]; exact Nat.mul_le_mul hc hx
  have h2 : (d * y).natAbs ≤ 2 ^ e * 2 ^ e := by rw [Int.natAbs_mul]; exact Nat.mul_le_mul hd hy
  have h3 : (2 : Nat) ^ (2 * e + 1) = 2 ^ e * 2 ^ e + 2 ^ e * 2 ^ e := by rw [Nat.pow_succ, Nat.two_mul, Nat.pow_add]; omega
  rw [h3]
  generalize 2 ^ e * 2 ^ e = m at h1 h2 ⊢
  omega
theorem cleared_vals (rw_ ch : List Int) (k : Nat) (h : rw_.length = ch.length) : cleared rw_ ch k = (List.range rw_.length).map fun i => ch.getD k 0 * rw_.getD i 0 - rw_.getD k 0 * ch.getD i 0 := by
  unfold cleared
  refine List.ext_getElem (by simp; omega) fun i h1 h2 => ?_
  have hi : i < rw_.length := by simpa using h2
  have hi2 : i < ch.length := by omega
  simp [List.getD_eq_getElem?_getD, List.getElem?_eq_getElem hi, List.getElem?_eq_getElem hi2]
theorem cleared_len (rw_ ch : List Int) (k : Nat) (h : rw_.length = ch.length) : (cleared rw_ ch k).length = rw_.length := by rw [cleared_vals _ _ _ h]; simp
theorem cleared_bd {e : Nat} {rw_ ch : List Int} (hl : rw_.length = ch.length) (h1 : BdN e rw_) (h2 : BdN e ch) (k : Nat) : BdN (2 * e + 1) (cleared rw_ ch k) := by
  intro x hx
  rw [cleared_vals _ _ _ hl] at hx
  obtain ⟨i, _, rfl⟩ := List.mem_map.mp hx
  exact cmb_bd (h2.getD k) (h1.getD k) (h1.getD i) (h2.getD i)
theorem BdN.mono {e f : Nat} {l : List Int} (h : BdN e l) (hf : e ≤ f) : BdN f l := fun x hx => Nat.le_trans (h x hx) (Nat.pow_le_pow_right (by decide) hf)
def spCleared (K : PySem.W.Frag) : Sp := fun vs H Q _ => ∃ (a b : Addr) (r c : List Int) (k e : Nat), vs = [.ref a, .ref b, .int k] ∧ SqL K H a (r.map V.int) ∧ SqL K H b (c.map V.int) ∧ (r.length = c.length ∧ k < r.length ∧ r.length ≤ 100 ∧ e ≤ 900) ∧ BdN e r ∧ BdN e c ∧
  ∀ D H', H D = none → Same H H' → H' D = some (.lst ((cleared r c k).map V.int)) → Q (.ref D) H'
theorem sc_cleared : FnScope ["row", "chosen", "step", "x", "y"] ["row", "chosen", "step"] (defScope s_cleared) := ⟨rfl, rfl, rfl, by decide +kernel, rfl, by decide +kernel, by decide +kernel⟩
theorem ok_cleared (T : Txt K mg A) : FnOk P w K mg base CX0 1 A.f_cleared A.d_cleared ["row", "chosen", "step"] (spCleared K) := by
  refine T.F_cleared.ok sc_cleared (fun vs H Q E h => ?_) (fun cdv Ar outer s H vs Q E hr h => ?_)
  · obtain ⟨a, b, r, c, k, e, rfl, _⟩ := h
    rfl
  · obtain ⟨a, b, r, c, k, e, rfl, ha, hb, ⟨h1, h2, h3, h4⟩, b1, b2, kk⟩ := h
    refine ⟨_, pss_one (ps_ret (pe_lc (own := [("x", 3), ("y", 4)]) rfl sc_cleared.nd (pi_zip rfl T.z_zip (pa_cons (pv 0) (pa_cons (pv 1) pa_nil)))
      (blkOk_by (by kernel_rfl)) (fun _ _ _ _ _ => pgtK (K := K) (n := 2) rfl rfl (pgs_cons (pg_name (i := 3) sc_cleared.nd rfl (Or.inl rfl)) (pgs_cons (pg_name (i := 4) sc_cleared.nd rfl (Or.inl rfl)) pgs_nil))) (fun _ _ _ _ _ => pts_nil)
      (fun _ _ _ _ _ => pe_op op_sub (pe_op op_mulB (pe_ix (ixL (K := K) rfl) (pv 1) (pv 2) (fun _ _ => rfl)) (pv 3)) (pe_op op_mulB (pe_ix (ixL (K := K) rfl) (pv 0) (pv 2) (fun _ _ => rfl)) (pv 4))))), ?_⟩
    refine ⟨_, rfl, _, rfl, a, b, _, _, rfl, ha, hb, fun D hD => ?_⟩
    refine lc_val (J := Itz K a b) hD r.length (by rw [sizeLine_eq]; omega) (fun i => .int (c.getD k 0 * r.getD i 0 - r.getD k 0 * c.getD i 0))
      (fun i Hh hi s1 => ⟨_, _, _, _, s1.seq ha, s1.seq hb, int_get hi, int_get (by omega)⟩) (fun Hh s1 => ⟨_, _, s1.seq ha, s1.seq hb, .inl (by simp)⟩) ?_ ?_
    · rintro i Hh z H' hi s1 ⟨t, x1, y1, rfl, ht, rfl, hx, hy⟩ C hC
      obtain ⟨rfl, _⟩ := map_int_get (hx _ (s1.seq ha))
      obtain ⟨rfl, _⟩ := map_int_get (hy _ (s1.seq hb))
      have st : Same Hh (upd Hh t (.tup [V.int (r.getD i 0), V.int (c.getD i 0)])) := same_new ht
      refine ⟨t, _, rfl, SqT.of upd_same, rfl, _, _, rfl, _, _, rfl, rfl, rfl, ?_⟩
      refine ⟨_, rfl, _, rfl, b, _, _, _, rfl, rfl, (s1.trans st).seq hb, atI_nat (int_get (by omega)), _, rfl, _, _, rfl, rfl, ⟨bits_of (b2.getD k) (by omega), bits_of (b1.getD i) (by omega)⟩,
        _, rfl, _, rfl, a, _, _, _, rfl, rfl, (s1.trans st).seq ha, atI_nat (int_get h2), _, rfl, _, _, rfl, rfl, ⟨bits_of (b1.getD k) (by omega), bits_of (b2.getD i) (by omega)⟩, _, _, rfl, rfl, ?_⟩
      exact hC _ st
    · intro Hh s1 hx
      refine kk D Hh hD s1 (hx.trans ?_)
      rw [cleared_vals _ _ _ h1, List.map_map]
      rfl
def RowsAt (K : PySem.W.Frag) (H : Hp) (r : Addr) (M : List (List Int)) : Prop := ∃ as : List Addr, SqL K H r (as.map V.ref) ∧ as.length = M.length ∧ ∀ (k : Nat) (a : Addr), as[k]? = some a → SqL K H a ((M.getD k []).map V.int)
theorem RowsAt.same {H H' : Hp} {r : Addr} {M : List (List Int)} (s : Same H H') (h : RowsAt K H r M) : RowsAt K H' r M := by
  obtain ⟨as, h1, h2, h3⟩ := h
  exact ⟨as, s.seq h1, h2, fun k a e => s.seq (h3 k a e)⟩
theorem same_hide {H1 Hh : Hp} {D : Addr} (s : Same H1 Hh) (h : H1 D = none) : Same H1 (hide D Hh) := fun b o e => by
  rw [hide_ne (ne_of_none e h)]; exact s b o e
theorem ref_get {as : List Addr} {i : Nat} {x : V} (h : (as.map V.ref)[i]? = some x) : ∃ a, as[i]? = some a ∧ x = .ref a := by
  rw [List.getElem?_map] at h
  cases e : as[i]? with
  | none => rw [e] at h; cases h
  | some a => rw [e] at h; exact ⟨a, rfl, (Option.some.inj h).symm⟩
def BdM (e p : Nat) (M : List (List Int)) : Prop := ∀ r ∈ M, BdN e r ∧ r.length = p + 1
theorem BdM.getD {e p : Nat} {M : List (List Int)} (h : BdM e p M) {k : Nat} (hk : k < M.length) : BdN e (M.getD k []) ∧ (M.getD k []).length = p + 1 := by
  rw [List.getD_eq_getElem?_getD, List.getElem?_eq_getElem hk]; exact h _ (List.getElem_mem hk)
theorem step_getD {M : List (List Int)} {i k : Nat} (hk : k < M.length) : (stepRows M i).getD k [] = if k = i then M.getD k [] else cleared (M.getD k []) (M.getD i []) i := by
  have ek : M.getD k [] = M[k] := by rw [List.getD_eq_getElem?_getD, List.getElem?_eq_getElem hk]; rfl
  rw [ek]
  unfold stepRows
  show ((M.zipIdx.map fun x => if x.2 = i then x.1 else cleared x.1 (M.getD i []) i)[k]?).getD [] = _
  rw [List.getElem?_map, List.getElem?_zipIdx, List.getElem?_eq_getElem hk]
  simp
theorem step_bd {e p : Nat} {M : List (List Int)} {i : Nat} (h : BdM e p M) (hi : i < M.length) : BdM (2 * e + 1) p (stepRows M i) := by
  intro r hr
  obtain ⟨k, hk, rfl⟩ := List.getElem_of_mem hr
  have hk' : k < M.length := by rw [step_len] at hk; exact hk
  have e1 := step_getD (i := i) hk'
  rw [List.getD_eq_getElem?_getD, List.getElem?_eq_getElem hk] at e1
  have e1 : (stepRows M i)[k] = _ := e1
  rw [e1]
  obtain ⟨a1, a2⟩ := h.getD hk'
  obtain ⟨c1, c2⟩ := h.getD hi
  split
  · exact ⟨a1.mono (by omega), a2⟩
  · exact ⟨cleared_bd (by omega) a1 c1 i, by rw [cleared_len _ _ _ (by omega)]; exact a2⟩
def spSolved (K : PySem.W.Frag) : Sp := fun vs H Q _ => ∃ (a : Addr) (M : List (List Int)), vs = [.ref a] ∧ RowsAt K H a M ∧ M.length ≤ 4 ∧ BdM 60 M.length M ∧ (solved M = none → ∀ H', Same H H' → Q .non H') ∧
  (∀ R, solved M = some R → ∀ r H', Same H H' → RowsAt K H' r R → BdM 1000 M.length R → R.length = M.length → Q (.ref r) H')
structure After (M : List (List Int)) (i : Nat) (N : List (List Int)) (e : Nat) : Prop where
  eq : solved M = solveFrom (M.length - i) i N
  len : N.length = M.length
  bd : BdM e M.length N
def eAt : Nat → Nat
  | 0 => 60
  | i + 1 => 2 * eAt i + 1
theorem sc_solved : FnScope ["equations", "rows", "step", "place", "row"] ["equations"] (defScope s_solved_guesses) := ⟨rfl, rfl, rfl, by decide +kernel, rfl, by decide +kernel, by decide +kernel⟩
theorem ok_solved (T : Txt K mg A) : FnOk P w K mg base CX0 2 A.f_solved_guesses A.d_solved_guesses ["equations"] (spSolved K) := by
  refine T.F_solved_guesses.ok sc_solved (fun vs H Q E h => ?_) (fun cdv Ar outer s H vs Q E hr h => ?_)
  · obtain ⟨a, M, rfl, _⟩ := h
    rfl
  · obtain ⟨a, M, rfl, hM, h4, hB, k0, k1⟩ := h
    refine ⟨_, pss_cons (ps_set (i := 1) sc_solved.nd rfl (Or.inr rfl) (pv 0))
      (pss_cons (ps_for PassesOwn.never rfl (pi_range1 rfl T.z_range (pa_cons (pe_callB call_len_seq (by rfl) T.z_len PySem.boot_len (pa_cons (pv 0) pa_nil)) pa_nil)) (pg_name (i := 2) sc_solved.nd rfl (Or.inr rfl))
        (pss_cons (ps_if (pt_cmpR op_eq (pe_ix ix_list (pe_ix ix_list (pv 1) (pv 2) (fun _ _ => rfl)) (pv 2) (fun _ _ => rfl)) pe_int (nomark _)) (pss_one (ps_ret pe_non)) pss_nil)
        (pss_one (ps_set (i := 1) sc_solved.nd rfl (Or.inr rfl) (pe_lc (own := [("place", 3), ("row", 4)]) rfl sc_solved.nd (pi_enum rfl T.z_enumerate (pa_cons (pv 1) pa_nil))
          (blkOk_by (by kernel_rfl)) (fun _ _ _ _ _ => pgtK (K := K) (n := 2) rfl rfl (pgs_cons (pg_name (i := 3) sc_solved.nd rfl (Or.inl rfl)) (pgs_cons (pg_name (i := 4) sc_solved.nd rfl (Or.inl rfl)) pgs_nil))) (fun _ _ _ _ _ => pts_nil)
          (fun _ _ _ _ _ => pe_ifExp (pt_cmpR op_eq (pv 3) (pv 2) (nomark _)) (pv 4) (pe_call (ok_cleared T) hr rfl T.m_cleared T.F_cleared.kp T.b_cleared .nil pass0 (pa_cons (pv 4) (pa_cons (pe_ix (ixL (K := K) rfl) (pv 1) (pv 2) (fun _ _ => rfl)) (pa_cons (pv 2) pa_nil))))))))))
      (pss_one (ps_ret (pv 1)))), ?_⟩
    obtain ⟨as0, q1, q2, q3⟩ := id hM
    have e62 : (2 : Int) ^ 62 = 4611686018427387904 := by decide
    refine ⟨_, rfl, _, rfl, a, _, rfl, .inl q1, _, rfl, by omega, by rw [List.length_map]; omega, ?_⟩
    have en : ((((as0.map V.ref).length : Nat) : Int)).toNat = M.length := by rw [List.length_map, q2]; rfl
    rw [en]
    refine for_range (lo := 0) (n := M.length) (fun i σ H' => ∃ (r : Addr) (N : List (List Int)) (v2 v3 v4 : Option V), σ = [some (.ref a), some (.ref r), v2, v3, v4] ∧ Same H H' ∧ RowsAt K H' r N ∧ After M i N (eAt i) ∧ i ≤ M.length)
      ⟨a, M, none, none, none, rfl, Same.refl _, hM, ⟨rfl, rfl, hB⟩, Nat.zero_le _⟩ ?_ ?_
    · rintro i σ H' hi ⟨r, N, v2, v3, v4, rfl, s1, hR, hA, _⟩
      obtain ⟨as, r1, r2, r3⟩ := id hR
      have hiN : i < N.length := by rw [hA.len]; exact hi
      obtain ⟨ai, hai⟩ : ∃ ai, as[i]? = some ai := ⟨_, List.getElem?_eq_getElem (by omega)⟩
      have hRi := r3 i ai hai
      obtain ⟨bi, li⟩ := hA.bd.getD hiN
      rw [Int.zero_add]
      refine ⟨_, rfl, _, rfl, r, _, _, _, rfl, rfl, r1, atI_nat (v := V.ref ai) (by rw [List.getElem?_map, hai]; rfl), _, rfl, ai, _, _, _, rfl, rfl, hRi, atI_nat (int_get (by omega)), rfl, _, rfl, ?_⟩
      have hs : M.length - i = (M.length - (i + 1)) + 1 := by omega
      refine ite2 (fun hz => ?_) fun hz => ?_
      · -- a pivot of 0
        have hz : (N.getD i []).getD i 0 = 0 := V.int.inj (of_decide_eq_true hz)
        refine k0 ?_ H' s1
        rw [hA.eq, hs, solveFrom, if_pos hz]
      · have hz : (N.getD i []).getD i 0 ≠ 0 := fun q => hz (decide_eq_true (by rw [q]))
        refine ⟨_, rfl, r, _, rfl, r1, fun D hD => ?_⟩
        have he : eAt i ≤ 900 := by
          have : i ≤ 3 := by omega
          rcases (by omega : i = 0 ∨ i = 1 ∨ i = 2 ∨ i = 3) with rfl | rfl | rfl | rfl <;> decide
        refine lc_rel (J := Ite K r) hD N.length (by rw [sizeLine_eq, hA.len]; omega) (fun k v Hq => ∃ b, v = .ref b ∧ SqL K Hq b (((stepRows N i).getD k []).map V.int))
          (fun k v H1 H2 _ ss ⟨b, h1, h2⟩ => ⟨b, h1, ss.seq h2⟩)
          (fun j Hh hj s2 => ⟨_, _, s2.seq r1, List.getElem?_eq_getElem (by rw [List.length_map]; omega)⟩) (fun Hh s2 => ⟨_, s2.seq r1, by rw [List.length_map]; omega⟩) ?_ ?_
        · rintro j Hh z H5 hj s2 ⟨acc, hacc⟩ ⟨t, x, rfl, ht, rfl, hx⟩ C hC
          obtain ⟨aj, haj, rfl⟩ := ref_get (hx _ (s2.seq r1))
          have st : Same Hh (upd Hh t (.tup [V.int (j : Nat), V.ref aj])) := same_new ht
          have hRj := r3 j aj haj
          obtain ⟨bj, lj⟩ := hA.bd.getD (show j < N.length by omega)
          refine ⟨t, _, rfl, SqT.of upd_same, rfl, _, _, rfl, _, _, rfl, rfl, rfl, ?_⟩
          refine ⟨_, rfl, _, rfl, rfl, _, rfl, ?_⟩
          refine ite2 (fun hz2 => ?_) fun hz2 => ?_
          · have hji : j = i := by have := V.int.inj (of_decide_eq_true hz2); omega
            refine ⟨_, rfl, hC _ _ st ⟨aj, rfl, ?_⟩⟩
            rw [step_getD hj, if_pos hji]
            exact (same_hide (s2.trans st) hD).seq hRj
          · have hji : j ≠ i := fun q => hz2 (decide_eq_true (by rw [q]))
            refine ⟨_, rfl, _, rfl, _, rfl, r, _, _, _, rfl, rfl, (s2.trans st).seq r1, atI_nat (v := V.ref ai) (by rw [List.getElem?_map, hai]; rfl), _, rfl, aj, ai, _, _, i, eAt i, rfl, (s2.trans st).seq hRj, (s2.trans st).seq hRi, ⟨by omega, by omega, by omega, he⟩, bj, bi, fun D2 H6 hD2 s6 hx6 => ?_⟩
            refine hC _ _ (st.trans s6) ⟨D2, rfl, ?_⟩
            rw [step_getD hj, if_neg hji]
            refine SqL.of ?_
            rw [hide_ne]
            · exact hx6
            · intro q
              rw [q, st _ _ hacc] at hD2
              cases hD2
        · intro Hh xs s2 hl hp hx
          have hstep : After M (i + 1) (stepRows N i) (eAt (i + 1)) := ⟨by rw [hA.eq, hs, solveFrom, if_neg hz], by rw [step_len, hA.len], step_bd hA.bd hiN⟩
          have hxs : ∃ bs : List Addr, xs = bs.map V.ref ∧ ∀ (k : Nat) (b : Addr), bs[k]? = some b → SqL K Hh b (((stepRows N i).getD k []).map V.int) := by
            refine ⟨xs.map fun v => match v with | .ref b => b | _ => 0, ?_, fun k b e => ?_⟩
            · refine List.ext_getElem? fun k => ?_
              rw [List.getElem?_map, List.getElem?_map]
              cases e : xs[k]? with
              | none => rfl
              | some v =>
                obtain ⟨b, rfl, _⟩ := hp k v e
                rfl
            · rw [List.getElem?_map] at e
              cases e2 : xs[k]? with
              | none => rw [e2] at e; cases e
              | some v =>
                obtain ⟨b', rfl, h2⟩ := hp k v e2
                rw [e2] at e
                cases e
                exact h2
          obtain ⟨bs, rfl, hbs⟩ := hxs
          exact ⟨D, stepRows N i, _, _, _, rfl, s1.trans s2, ⟨bs, SqL.of hx, by rw [List.length_map] at hl; rw [hl, step_len], hbs⟩, hstep, hi⟩
    · rintro σ H' ⟨r, N, v2, v3, v4, rfl, s1, hR, hA, _⟩
      refine ⟨_, rfl, k1 N ?_ r H' s1 hR ?_ hA.len⟩
      · rw [hA.eq, Nat.sub_self]; rfl
      · intro row hrow
        obtain ⟨b1, b2⟩ := hA.bd row hrow
        refine ⟨b1.mono ?_, b2⟩
        rcases (by omega : M.length = 0 ∨ M.length = 1 ∨ M.length = 2 ∨ M.length = 3 ∨ M.length = 4) with e | e | e | e | e <;> rw [e] <;> decide
theorem ip_bd {B : Int} (hB : 0 ≤ B) : ∀ l m : List Int, Bd B l → Bd B m → -(l.length * (B * B)) ≤ ip l m ∧ ip l m ≤ l.length * (B * B)
  | [], _, _, _ => by simp [ip]
  | x :: l, [], _, _ => by
    have : 0 ≤ ((x :: l).length : Int) * (B * B) := Int.mul_nonneg (by omega) (Int.mul_nonneg hB hB)
    simp only [ip]; omega
  | x :: l, y :: m, h1, h2 => by
    have a := mul_bd hB (h1 x (by simp)) (h2 y (by simp))
    have b := ip_bd hB l m (fun z hz => h1 z (List.mem_cons_of_mem _ hz)) (fun z hz => h2 z (List.mem_cons_of_mem _ hz))
    simp only [ip, List.length_cons]
    have e : ((l.length + 1 : Nat) : Int) * (B * B) = l.length * (B * B) + B * B := by rw [Int.natCast_add, Int.add_mul]; simp
    rw [e]; omega
theorem moment_bd {y : List Int} {p i j : Nat} (hy : Bd 16777216 y) (hl : y.length ≤ 1024) : (Sound.moment y p i j).natAbs ≤ 2 ^ 60 := by
  rw [moment_ip]
  have b := ip_bd (by decide) _ _ (lag_bd (p := p) (i := i) hy) (lag_bd (p := p) (i := j) hy)
  have hlen : (lagv y p i).length ≤ 1024 := by unfold lagv; rw [List.length_take]; omega
  have e60 : (2 : Nat) ^ 60 = 1152921504606846976 := by decide
  rw [e60]
  have : ((lagv y p i).length : Int) * (16777216 * 16777216) ≤ 1024 * (16777216 * 16777216) := by omega
  omega
theorem normal_bd {y : List Int} {p : Nat} (hy : Bd 16777216 y) (hl : y.length ≤ 1024) : BdM 60 (normalRows y p).length (normalRows y p) := by
  intro r hr
  obtain ⟨i, _, rfl⟩ := List.mem_map.mp hr
  refine ⟨fun x hx => ?_, by simp [normalRows]⟩
  rcases List.mem_append.mp hx with h | h
  · obtain ⟨j, _, rfl⟩ := List.mem_map.mp h
    exact moment_bd hy hl
  · rw [List.mem_singleton.mp h]
    exact moment_bd hy hl
theorem normal_getD {y : List Int} {p k : Nat} (hk : k < p) : (normalRows y p).getD k [] = rowP y p (k + 1) := by
  unfold normalRows
  rw [List.getD_eq_getElem?_getD, List.getElem?_map, List.getElem?_range hk]; rfl
theorem rev16 : (List.range 16).reverse = (List.range 16).map (fun i => 15 - i) := by decide
theorem find16 {q : Nat → Bool} {i : Nat} (hi : i < 16) (h1 : q (15 - i) = true) (h2 : ∀ j, j < i → q (15 - j) = false) : (List.range 16).reverse.find? q = some (15 - i) := by
  rw [rev16, List.find?_map]
  have : (List.range 16).find? (q ∘ fun i => 15 - i) = some i := by
    rw [List.find?_range_eq_some]
    exact ⟨h1, by simpa using hi, fun j hj => by simp [h2 j hj]⟩
  rw [this]; rfl
theorem find16n {q : Nat → Bool} (h2 : ∀ j, j < 16 → q (15 - j) = false) : (List.range 16).reverse.find? q = none := by
  rw [List.find?_eq_none]
  intro x hx
  have hx : x < 16 := by simpa using hx
  have := h2 (15 - x) (by omega)
  rw [show 15 - (15 - x) = x by omega] at this
  rw [this]; decide
def okFac (l : List Int) : Bool := l.all fun f => decide (-2048 ≤ f) && decide (f ≤ 2047)
theorem okFac_fits (l : List Int) : l.all (fitsP 12) = okFac l := by
  unfold okFac
  congr 1
  funext f
  have e : (2 : Int) ^ ((12 : Int) - 1).toNat = 2048 := by decide
  unfold fitsP
  rw [e]
  congr 1
  rw [Bool.eq_iff_iff, decide_eq_true_eq, decide_eq_true_eq]; omega
theorem facAt_len (R : List (List Int)) (p h : Nat) : (facAt R p h).length = R.length := by simp [facAt]
theorem facAt_vals (R : List (List Int)) (p h : Nat) : (List.range R.length).map (fun k => V.int (nearestP ((R.getD k []).getD p 0 * 2 ^ h) ((R.getD k []).getD k 0))) = (facAt R p h).map V.int := by
  refine List.ext_getElem (by simp [facAt]) fun i h1 h2 => ?_
  have hi : i < R.length := by simpa using h1
  have e : R.getD i [] = R[i] := by rw [List.getD_eq_getElem?_getD, List.getElem?_eq_getElem hi]; rfl
  simp [facAt, e]
  congr 2
  rw [List.getElem?_eq_getElem hi]; rfl
def spLin (K : PySem.W.Frag) (C : Addr) : Sp := fun vs H Q _ => ∃ (q : Addr) (y : List Int) (p : Nat), vs = [.int p, .ref q] ∧ SqL K H q (y.map V.int) ∧ (1 ≤ p ∧ p ≤ 4 ∧ p ≤ y.length ∧ y.length ≤ 1024) ∧ Bd 16777216 y ∧
  (linGuess y p = none → ∀ H', Same H H' → Q .non H') ∧ (∀ h a, linGuess y p = some (h, a) → ∀ x H', H x = none → Same H H' → IsGuess K C H' x a h → Q (.ref x) H')
theorem sc_linear_guess : FnScope ["order", "numbers", "rows", "shift", "factors", "lag", "place", "row", "factor"] ["order", "numbers"] (defScope s_linear_guess) := ⟨rfl, rfl, rfl, by decide +kernel, rfl, by decide +kernel, by decide +kernel⟩
theorem ok_linear_guess (T : Txt K mg A) : FnOk P w K mg base CX0 3 A.f_linear_guess A.d_linear_guess ["order", "numbers"] (spLin K A.c_Guess) := by
  refine T.F_linear_guess.ok sc_linear_guess (fun vs H Q E h => ?_) (fun cdv Ar outer s H vs Q E hr h => ?_)
  · obtain ⟨q, y, p, rfl, _⟩ := h
    rfl
  · obtain ⟨q, y, p, rfl, hq, ⟨h1, h4, hn, hl⟩, hb, k0, k1⟩ := h
    have hr1 : Room 1 _ := hr.mono (by decide)
    refine ⟨_, pss_cons (ps_set (i := 2) sc_linear_guess.nd rfl (Or.inr rfl) (pe_call (ok_solved T) hr rfl T.m_solved_guesses T.F_solved_guesses.kp T.b_solved_guesses .nil pass0 (pa_cons (pe_lc (own := [("lag", 5)]) rfl sc_linear_guess.nd
        (pi_range2 rfl T.z_range (pa_cons pe_int (pa_cons (pe_op op_add (pv 0) pe_int) pa_nil))) (blkOk_by (by kernel_rfl)) (fun _ _ _ _ _ => pg_name (i := 5) sc_linear_guess.nd rfl (Or.inl rfl)) (fun _ _ _ _ _ => pts_nil)
        (fun _ _ _ _ _ => pe_call (ok_normal_row T) hr rfl T.m_normal_row T.F_normal_row.kp T.b_normal_row .nil pass0 (pa_cons (pv 0) (pa_cons (pv 1) (pa_cons (pv 5) pa_nil))))) pa_nil)))
      (pss_cons (ps_if (pt_cmp (pc_isN (pv 2))) (pss_one (ps_ret pe_non)) pss_nil)
      (pss_cons (ps_for PassesOwn.never rfl (pi_range3 rfl T.z_range (pa_cons (pe_gi rfl T.g_GREATEST_SHIFT) (pa_cons (pe_un un_neg pe_int) (pa_cons (pe_un un_neg pe_int) pa_nil)))) (pg_name (i := 3) sc_linear_guess.nd rfl (Or.inr rfl))
        (pss_cons (ps_setLc (i := 4) (own := [("place", 6), ("row", 7)]) rfl sc_linear_guess.nd rfl rfl rfl (pi_enum rfl T.z_enumerate (pa_cons (pv 2) pa_nil)) (blkOk_by (by kernel_rfl))
          (fun _ _ _ _ _ => pgtK (K := K) (n := 2) rfl rfl (pgs_cons (pg_name (i := 6) sc_linear_guess.nd rfl (Or.inl rfl)) (pgs_cons (pg_name (i := 7) sc_linear_guess.nd rfl (Or.inl rfl)) pgs_nil))) (fun _ _ _ _ _ => pts_nil)
          (fun _ _ _ _ _ => pe_call (ok_nearest T) hr1 rfl T.m_nearest T.F_nearest.kp T.b_nearest .nil pass0 (pa_cons (pe_op op_shlB (pe_ix (ixL (K := K) rfl) (pv 7) (pv 0) (fun _ _ => rfl)) (pv 3)) (pa_cons (pe_ix (ixL (K := K) rfl) (pe_ix (ixL (K := K) rfl) (pv 2) (pv 6) (fun _ _ => rfl)) (pv 6) (fun _ _ => rfl)) pa_nil))))
        (pss_one (ps_if (pt_val (pe_callB (cr_all rfl) rfl T.z_all (by decide +kernel : bootBuiltins "all" = some (.builtin "all")) (pa_cons (pe_lc (own := [("factor", 8)]) rfl sc_linear_guess.nd (pi_list (pv 4)) (blkOk_by (by kernel_rfl)) (fun _ _ _ _ _ => pg_name (i := 8) sc_linear_guess.nd rfl (Or.inl rfl)) (fun _ _ _ _ _ => pts_nil)
            (fun _ _ _ _ _ => pe_call (ok_fits T) hr1 rfl T.m_fits T.F_fits.kp T.b_fits .nil pass0 (pa_cons (pe_gi rfl T.g_FACTOR_WIDTH) (pa_cons (pv 8) pa_nil)))) pa_nil)))
          (pss_one (ps_ret (pe_make T.k_Guess (ok_Guess_init T) hr rfl T.m_Guess T.b_Guess_init .nil pass0 (pa_cons (pv 4) (pa_cons (pv 3) pa_nil))))) pss_nil))))
      (pss_one (ps_ret pe_non)))), ?_⟩
    have e62 : (2 : Int) ^ 62 = 4611686018427387904 := by decide
    refine ⟨_, rfl, _, _, rfl, rfl, _, _, rfl, ⟨by omega, by omega, by omega, by omega⟩, fun D hD => ?_⟩
    have ep : ((p : Int) + 1 - 1).toNat = p := by omega
    rw [ep]
    refine lc_rel (J := Itr 1 p) hD p (by rw [sizeLine_eq]; omega) (fun k v Hq => ∃ b, v = .ref b ∧ SqL K Hq b ((rowP y p (k + 1)).map V.int)) (fun k v H1 H2 _ ss ⟨b, a1, a2⟩ => ⟨b, a1, ss.seq a2⟩)
      (fun i Hh hi s1 => hi) (fun Hh s1 => Nat.le_refl _) ?_ ?_
    · rintro i Hh z H' hi s1 ⟨acc, hacc⟩ ⟨rfl, rfl⟩ C hC
      have e1 : (1 : Int) + (i : Nat) = ((i + 1 : Nat) : Int) := by omega
      rw [e1]
      refine ⟨rfl, _, rfl, _, rfl, _, rfl, q, y, p, i + 1, rfl, s1.seq hq, ⟨hn, hl, by omega, h4⟩, hb, fun D2 H6 hD2 s6 hx6 => ?_⟩
      refine hC _ _ s6 ⟨D2, rfl, SqL.of ?_⟩
      rw [hide_ne]
      · exact hx6
      · intro e
        rw [e, hacc] at hD2
        cases hD2
    intro Hh xs s1 hlen hp hx
    have hxs : ∃ bs : List Addr, xs = bs.map V.ref ∧ ∀ (k : Nat) (b : Addr), bs[k]? = some b → SqL K Hh b ((rowP y p (k + 1)).map V.int) := by
      refine ⟨xs.map fun v => match v with | .ref b => b | _ => 0, ?_, fun k b e => ?_⟩
      · refine List.ext_getElem? fun k => ?_
        rw [List.getElem?_map, List.getElem?_map]
        cases e : xs[k]? with
        | none => rfl
        | some v =>
          obtain ⟨b, rfl, _⟩ := hp k v e
          rfl
      · rw [List.getElem?_map] at e
        cases e2 : xs[k]? with
        | none => rw [e2] at e; cases e
        | some v =>
          obtain ⟨b', rfl, a2⟩ := hp k v e2
          rw [e2] at e
          cases e
          exact a2
    obtain ⟨bs, rfl, hbs⟩ := hxs
    rw [List.length_map] at hlen
    have hNl : (normalRows y p).length = p := by simp [normalRows]
    refine ⟨D, normalRows y p, rfl, ⟨bs, SqL.of hx, by rw [hNl, hlen], fun k b e => ?_⟩, by rw [hNl]; exact h4, normal_bd hb hl, ?_, ?_⟩
    · have hk : k < p := by have := (List.getElem?_eq_some_iff.mp e).1; omega
      rw [normal_getD hk]
      exact hbs k b e
    · -- no only answer
      intro hz H2 s2
      refine ⟨_, rfl, _, rfl, iteT ?_⟩
      refine k0 ?_ H2 (s1.trans s2)
      unfold linGuess
      rw [hz]
    · intro R hR r H2 s2 hRA hRB hRl
      rw [hNl] at hRB hRl
      refine ⟨_, rfl, _, rfl, iteF ?_⟩
      have hG : ∃ d ns, Good p R d ns := by
        rcases exact_solved h1 h4 hn with ⟨_, e2⟩ | ⟨d, ns, rows, _, e2, g⟩
        · rw [hR] at e2; cases e2
        · rw [hR] at e2; cases e2; exact ⟨d, ns, g⟩
      obtain ⟨d, ns, g⟩ := hG
      have hlin : linGuess y p = ((List.range 16).reverse.find? fun h => okFac (facAt R p h)).map fun h => (h, facAt R p h) := by
        unfold linGuess
        rw [hR]
        rfl
      refine ⟨_, rfl, _, rfl, 15, -1, -1, 16, rfl, RgC.neg (i := 15) (j := -1) (by omega) (by omega) (by omega) (by omega), ?_⟩
      refine for_rangeC (lo := 15) (c := -1) (n := 16) (fun i σ H' => ∃ v3 v4 v5 v6 v7 v8 : Option V, σ = [some (.int p), some (.ref q), some (.ref r), v3, v4, v5, v6, v7, v8] ∧ Same H H' ∧ RowsAt K H' r R ∧ ∀ j, j < i → okFac (facAt R p (15 - j)) = false)
        ⟨none, none, none, none, none, none, rfl, s1.trans s2, hRA, fun j hj => by omega⟩ ?_ ?_
      · rintro i σ H3 hi ⟨v3, v4, v5, v6, v7, v8, rfl, s3, hR3, hno⟩
        have e15 : (15 : Int) + (i : Nat) * (-1) = ((15 - i : Nat) : Int) := by omega
        rw [e15]
        obtain ⟨as, r1, r2, r3⟩ := id hR3
        refine ⟨_, rfl, r, _, rfl, r1, fun D2 hD2 => ?_⟩
        refine lc_val (J := Ite K r) hD2 R.length (by rw [sizeLine_eq]; omega) (fun k => .int (nearestP ((R.getD k []).getD p 0 * 2 ^ (15 - i)) ((R.getD k []).getD k 0)))
          (fun j H4 hj s4 => ⟨_, _, s4.seq r1, List.getElem?_eq_getElem (by rw [List.length_map]; omega)⟩) (fun H4 s4 => ⟨_, s4.seq r1, by rw [List.length_map]; omega⟩) ?_ ?_
        · rintro j H4 z H5 hj s4 ⟨t, x, rfl, ht, rfl, hx4⟩ C hC
          obtain ⟨aj, haj, rfl⟩ := ref_get (hx4 _ (s4.seq r1))
          have st : Same H4 (upd H4 t (.tup [V.int (j : Nat), V.ref aj])) := same_new ht
          have hRj := r3 j aj haj
          obtain ⟨bj, lj⟩ := hRB.getD hj
          refine ⟨t, _, rfl, SqT.of upd_same, rfl, _, _, rfl, _, _, rfl, rfl, rfl, ?_⟩
          refine ⟨_, rfl, _, rfl, aj, _, _, _, rfl, rfl, (s4.trans st).seq hRj, atI_nat (int_get (by omega)), _, rfl, _, _, rfl, rfl, ⟨by omega, ?_⟩, _, rfl, _, rfl, r, _, _, _, rfl, rfl, (s4.trans st).seq r1, atI_nat (v := V.ref aj) (by rw [List.getElem?_map, haj]; rfl), _, rfl, aj, _, _, _, rfl, rfl, (s4.trans st).seq hRj, atI_nat (int_get (by omega)), _, _, rfl, g.pos j (by omega), ?_, ?_⟩
          · have := bits_of (bj.getD p) (by decide)
            have e20 : (2 : Nat) ^ 20 = 1048576 := by decide
            have e27 : (2 : Int) ^ 27 = 134217728 := by decide
            omega
          · exact Nat.lt_of_le_of_lt (bj.getD j) (Nat.pow_lt_pow_right (by decide) (by decide))
          · exact hC _ st
        · intro H4 s4 hx4
          rw [facAt_vals] at hx4
          have s34 : Same H H4 := s3.trans s4
          refine ⟨_, rfl, D2, rfl, ⟨_, SqL.of hx4⟩, fun D3 hD3 => ?_⟩
          have sqF : SqL K H4 D2 ((facAt R p (15 - i)).map V.int) := SqL.of hx4
          refine lc_val (J := Itl K D2) hD3 (facAt R p (15 - i)).length (by rw [facAt_len, sizeLine_eq]; omega) (fun k => .bl (fitsP 12 ((facAt R p (15 - i)).getD k 0))) (fun j H5 hj s5 => ⟨_, _, s5.seq sqF, int_get hj⟩) (fun H5 s5 => ⟨_, s5.seq sqF, by simp⟩) ?_ ?_
          · rintro j H5 x H6 hj s5 ⟨rfl, hx5⟩ C hC
            obtain ⟨rfl, _⟩ := map_int_get (hx5 _ (s5.seq sqF))
            refine ⟨rfl, _, rfl, 12, _, rfl, ⟨by decide, by decide⟩, hC _ (Same.refl _)⟩
          · intro H5 s5 hx5
            refine ⟨D3, (facAt R p (15 - i)).map (fitsP 12), rfl, SqL.of (xs := _) (hx5.trans ?_), _, rfl, ?_⟩
            · congr 2
              refine List.ext_getElem (by simp) fun k a1 a2 => ?_
              have hk : k < (facAt R p (15 - i)).length := by simpa using a2
              simp [List.getD_eq_getElem?_getD, List.getElem?_eq_getElem hk]
            · have e : ((facAt R p (15 - i)).map (fitsP 12)).all id = okFac (facAt R p (15 - i)) := by rw [List.all_map, ← okFac_fits]; rfl
              rw [e]
              refine ite2 (fun hok => ?_) fun hok => ?_
              · refine ⟨_, rfl, _, rfl, ?_⟩
                intro x dx hx6 hdx hne
                refine ⟨x, dx, _, _, rfl, upd_same, rfl, ?_⟩
                rw [upd_made]
                have s45 : Same H H5 := s34.trans s5
                refine k1 (15 - i) (facAt R p (15 - i)) ?_ x _ (s45.free hx6) (s45.trans (same_made hx6 hdx)) ⟨dx, D2, upd_same, SqL.of ?_⟩
                · rw [hlin, find16 hi hok hno]; rfl
                · exact same_made hx6 hdx _ _ (s5 _ _ hx4)
              · refine ⟨_, _, _, _, _, _, rfl, s34.trans s5, hR3.same (s4.trans s5), fun j hj => ?_⟩
                by_cases hji : j = i
                · subst hji; simpa using hok
                · exact hno j (by omega)
      · rintro σ H3 ⟨v3, v4, v5, v6, v7, v8, rfl, s3, hR3, hno⟩
        refine k0 ?_ H3 s3
        rw [hlin, find16n hno]; rfl
def gwf (a b c d e : Int) : List (Str × V) := [("first", .int a), ("last", .int b), ("g", .int c), ("v", .int d), ("bits", .int e)]
def IsGW (C : Addr) (H : Hp) (x : Addr) (g : GW) : Prop := ∃ dx, H x = some (.ins C dx (gwf g.first g.last g.g g.v g.bits))
theorem IsGW.same {C : Addr} {H H' : Hp} {x : Addr} {g : GW} (s : Same H H') (h : IsGW C H x g) : IsGW C H' x g := by
  obtain ⟨dx, h⟩ := h
  exact ⟨dx, s _ _ h⟩
def spGW (C : Addr) : Sp := fun vs H Q _ => ∃ (p dx : Addr) (a b c d e : Int), vs = [.ref p, .int a, .int b, .int c, .int d, .int e] ∧ H p = some (.ins C dx []) ∧ Q .non (upd H p (.ins C dx (gwf a b c d e)))
theorem put1 (f g : Str) (x y : V) (h : f ≠ g) : putF g y [(f, x)] = [(f, x), (g, y)] := by
  unfold putF; rw [if_neg h]; rfl
theorem gwf_put (a b c d e : Int) : putF "bits" (.int e) (putF "v" (.int d) (putF "g" (.int c) (putF "last" (.int b) (putF "first" (.int a) [])))) = gwf a b c d e := by
  have e1 : putF "first" (.int a) [] = [(("first" : Str), V.int a)] := rfl
  rw [e1]
  have n1 : ¬ ("first" : Str) = "last" := by decide
  have n2 : ¬ ("first" : Str) = "g" := by decide
  have n3 : ¬ ("last" : Str) = "g" := by decide
  have n4 : ¬ ("first" : Str) = "v" := by decide
  have n5 : ¬ ("last" : Str) = "v" := by decide
  have n6 : ¬ ("g" : Str) = "v" := by decide
  have n7 : ¬ ("first" : Str) = "bits" := by decide
  have n8 : ¬ ("last" : Str) = "bits" := by decide
  have n9 : ¬ ("g" : Str) = "bits" := by decide
  have n0 : ¬ ("v" : Str) = "bits" := by decide
  simp only [putF, if_neg n1, if_neg n2, if_neg n3, if_neg n4, if_neg n5, if_neg n6, if_neg n7, if_neg n8, if_neg n9, if_neg n0]
  rfl
theorem sc_GroupWay_init : FnScope ["self", "first", "last", "g", "v", "bits"] ["self", "first", "last", "g", "v", "bits"] (defScope s_GroupWay_init) := ⟨rfl, rfl, rfl, by decide +kernel, rfl, by decide +kernel, by decide +kernel⟩
theorem ok_GroupWay_init (T : Txt K mg A) : FnOk P w K mg base CX0 1 A.f_GroupWay_init A.d_GroupWay_init ["self", "first", "last", "g", "v", "bits"] (spGW A.c_GroupWay) := by
  refine T.F_GroupWay_init.ok sc_GroupWay_init (fun vs H Q E h => ?_) (fun cdv Ar outer s H vs Q E hr h => ?_)
  · obtain ⟨p, dx, a, b, c, d, e, rfl, _⟩ := h
    rfl
  · obtain ⟨p, dx, a, b, c, d, e, rfl, hp, k⟩ := h
    refine ⟨_, pss_cons (ps_fld (pv 0) (pv 1) rfl) (pss_cons (ps_fld (pv 0) (pv 2) rfl) (pss_cons (ps_fld (pv 0) (pv 3) rfl) (pss_cons (ps_fld (pv 0) (pv 4) rfl) (pss_one (ps_fld (pv 0) (pv 5) rfl))))), ?_⟩
    have few : ∀ {f : Str} {v : V} {l : List (Str × V)} {m : Nat}, l.length ≤ m → (putF f v l).length ≤ m + 1 := fun {f v l m} h => Nat.le_trans (length_putF f v l) (by omega)
    have f0 : ([] : List (Str × V)).length ≤ 0 := Nat.le_refl _
    have f1 := few (f := "first") (v := .int a) f0
    have f2 := few (f := "last") (v := .int b) f1
    have f3 := few (f := "g") (v := .int c) f2
    have f4 := few (f := "v") (v := .int d) f3
    refine ⟨_, rfl, _, rfl, p, A.c_GroupWay, dx, _, rfl, hp, T.l_GroupWay, T.n_GroupWay_first, (by show 0 < 1000; decide), ?_⟩
    refine ⟨_, rfl, _, rfl, p, A.c_GroupWay, dx, _, rfl, upd_same, T.l_GroupWay, T.n_GroupWay_last, by omega, ?_⟩
    refine ⟨_, rfl, _, rfl, p, A.c_GroupWay, dx, _, rfl, upd_same, T.l_GroupWay, T.n_GroupWay_g, by omega, ?_⟩
    refine ⟨_, rfl, _, rfl, p, A.c_GroupWay, dx, _, rfl, upd_same, T.l_GroupWay, T.n_GroupWay_v, by omega, ?_⟩
    refine ⟨_, rfl, _, rfl, p, A.c_GroupWay, dx, _, rfl, upd_same, T.l_GroupWay, T.n_GroupWay_bits, by omega, ?_⟩
    rw [gwf_put, upd_upd, upd_upd, upd_upd, upd_upd]
    exact k
def vN (F : List Nat) : List V := F.map fun (n : Nat) => V.int (n : Int)
theorem vN_int (F : List Nat) : vN F = (F.map fun (n : Nat) => (n : Int)).map V.int := by unfold vN; rw [List.map_map]; rfl
theorem vN_get {F : List Nat} {i : Nat} (h : i < F.length) : (vN F)[i]? = some (.int ((F.getD i 0 : Nat) : Int)) := by
  unfold vN
  rw [List.getElem?_map, List.getElem?_eq_getElem h, List.getD_eq_getElem?_getD, List.getElem?_eq_getElem h]; rfl
theorem vN_get' {F : List Nat} {i : Nat} {x : V} (h : (vN F)[i]? = some x) : x = .int ((F.getD i 0 : Nat) : Int) ∧ i < F.length := by
  by_cases hi : i < F.length
  · rw [vN_get hi] at h; exact ⟨(Option.some.inj h).symm, hi⟩
  · rw [List.getElem?_eq_none (by unfold vN; rw [List.length_map]; omega)] at h; cases h
theorem vN_len (F : List Nat) : (vN F).length = F.length := by simp [vN]
def pref (F : List Nat) (g t : Nat) : Nat := ((F.take t).map fun n => n / 2 ^ g).sum
def psums (F : List Nat) (g : Nat) : List Nat := (List.range (F.length + 1)).map (pref F g)
theorem pref_succ {F : List Nat} {g t : Nat} (h : t < F.length) : pref F g (t + 1) = pref F g t + F.getD t 0 / 2 ^ g := by
  unfold pref
  rw [List.take_succ, List.getElem?_eq_getElem h, List.getD_eq_getElem?_getD, List.getElem?_eq_getElem h, List.map_append, List.sum_append]
  simp only [Option.toList_some, List.map_cons, List.map_nil, List.sum_cons, List.sum_nil, Nat.add_zero, Option.getD_some]
def spRun (K : PySem.W.Frag) : Sp := fun vs H Q _ => ∃ (q : Addr) (F : List Nat) (g : Nat), vs = [.ref q, .int g] ∧ SqL K H q (vN F) ∧ F.length ≤ 1024 ∧ ∀ D H', H D = none → Same H H' → H' D = some (.lst (vN (psums F g))) → Q (.ref D) H'
theorem sc_running_sums : FnScope ["folded", "g", "total", "sums", "number"] ["folded", "g"] (defScope s_running_sums) := ⟨rfl, rfl, rfl, by decide +kernel, rfl, by decide +kernel, by decide +kernel⟩
theorem ok_running_sums (T : Txt K mg A) : FnOk P w K mg base CX0 1 A.f_running_sums A.d_running_sums ["folded", "g"] (spRun K) := by
  refine T.F_running_sums.ok sc_running_sums (fun vs H Q E h => ?_) (fun cdv Ar outer s H vs Q E hr h => ?_)
  · obtain ⟨q, F, g, rfl, _⟩ := h
    rfl
  · obtain ⟨q, F, g, rfl, hq, hl, k⟩ := h
    refine ⟨_, pss_cons (ps_set (i := 2) sc_running_sums.nd rfl (Or.inl rfl) pe_int) (pss_cons (ps_set (i := 3) sc_running_sums.nd rfl (Or.inl rfl) (pe_lst (pa_cons pe_int pa_nil)))
      (pss_cons (ps_for PassesOwn.never rfl (pi_list (pv 0)) (pg_name (i := 4) sc_running_sums.nd rfl (Or.inl rfl))
        (pss_cons (ps_aug (i := 2) sc_running_sums.nd rfl (Or.inl rfl) (pe_op op_shr (pv 4) (pv 1)) iop_add)
        (pss_one (ps_expr (pe_bm PySem.F.plainAttrs_list PySem.F.slot_list_append PySem.F.type_list_append mt_append (pv 3) (pa_cons (pv 2) pa_nil))))))
      (pss_one (ps_ret (pv 3))))), ?_⟩
    refine ⟨(by show 1 ≤ sizeLine; decide), fun D hD => ?_⟩
    have sq0 : Same H (upd H D (.lst [V.int 0])) := same_new hD
    refine ⟨_, rfl, q, rfl, ⟨_, sq0.seq hq⟩, ?_⟩
    refine for_list (K := K) (a := q) (xs := vN F) (fun i σ H' => ∃ v : Option V, σ = [some (.ref q), some (.int g), some (.int (pref F g i : Nat)), some (.ref D), v] ∧ Same H H' ∧ H' D = some (.lst (vN ((List.range (i + 1)).map (pref F g)))))
      ⟨none, rfl, sq0, upd_same.trans rfl⟩ (fun i σ H' _ ⟨_, _, s1, _⟩ => s1.seq hq) ?_ ?_
    · rintro i x σ H' hi ⟨v, rfl, s1, hx⟩
      obtain ⟨rfl, hil⟩ := vN_get' hi
      refine ⟨_, rfl, _, rfl, _, rfl, _, _, rfl, rfl, (by omega), _, _, rfl, rfl, _, rfl, .inl ⟨rfl, _, SqL.of hx⟩, _, rfl, D, _, _, rfl, rfl, hx, (by rw [vN_len, List.length_map, List.length_range, sizeLine_eq]; omega), some (.int ((F.getD i 0 : Nat) : Int)), ?_, same_keep s1 hD, ?_⟩
      · have e : ((pref F g i : Nat) : Int) + ((F.getD i 0 : Nat) : Int) / 2 ^ (g : Int).toNat = ((pref F g (i + 1) : Nat) : Int) := by
          rw [pref_succ hil, Int.toNat_natCast]; simp
        show [some (V.ref q), some (V.int g), some (V.int (((pref F g i : Nat) : Int) + ((F.getD i 0 : Nat) : Int) / 2 ^ (g : Int).toNat)), some (V.ref D), some (V.int ((F.getD i 0 : Nat) : Int))] = _
        rw [e]
      · have e : ((pref F g i : Nat) : Int) + ((F.getD i 0 : Nat) : Int) / 2 ^ (g : Int).toNat = ((pref F g (i + 1) : Nat) : Int) := by
          rw [pref_succ hil, Int.toNat_natCast]; simp
        rw [upd_same]
        show some (HO.lst (vN ((List.range (i + 1)).map (pref F g)) ++ [V.int (((pref F g i : Nat) : Int) + ((F.getD i 0 : Nat) : Int) / 2 ^ (g : Int).toNat)])) = _
        rw [e, List.range_succ (n := i + 1), List.map_append]
        unfold vN
        rw [List.map_append]
        rfl
    · rintro σ H' ⟨v, rfl, s1, hx⟩
      rw [vN_len] at hx
      exact ⟨_, rfl, k D H' hD s1 hx⟩
theorem cutN {F : List Nat} {a b : Nat} (h1 : a ≤ b) (h2 : b ≤ F.length) : cutV (vN F) (some (a : Int)) (some (b : Int)) = vN (slice F a b) := by
  unfold cutV HT.sIx slice vN
  simp only [List.length_map]
  rw [if_neg (by omega), if_neg (by omega), List.map_take, List.map_drop]
  have e1 : min ((a : Int)).toNat F.length = a := by omega
  have e2 : min ((b : Int)).toNat F.length = b := by omega
  rw [e1, e2]
theorem slice_len {F : List Nat} {a b : Nat} (h2 : b ≤ F.length) : (slice F a b).length = b - a := by unfold slice; rw [List.length_take, List.length_drop]; omega
theorem pref_slice {F : List Nat} {g a b : Nat} (h1 : a ≤ b) (h2 : b ≤ F.length) : pref F g b = pref F g a + ((slice F a b).map fun n => n / 2 ^ g).sum := by
  unfold pref slice
  have : F.take b = F.take a ++ (F.drop a).take (b - a) := by
    rw [← List.take_append_drop a (F.take b), List.take_take, List.drop_take]
    congr 2; omega
  rw [this, List.map_append, List.sum_append]
def tMaxN (K : PySem.W.Frag) (te : TE) : TE := fun σ H Q => te σ H fun x H1 => ∃ (a : Addr) (F : List Nat), x = .ref a ∧ SqL K H1 a (vN F) ∧ Q (.int (maxN F : Nat)) H1
theorem pe_maxN {X : Cx} {e : Expr} {te : TE} {p pos kpos cpos : Pos} {ck : Nat} (hc : X.calm = true) (hg : Gl X "max") (hm : X.mg "max" = none) (he : PE X e te)
    (hs : starEach [e] X.env = [(false, eval e X.env)] := by rfl) : PE X (.Call (.Name "max" p) [e] [⟨some (Str.ofString "default"), .Constant (.int 0) ck cpos, kpos⟩] pos) (tMaxN X.K te) := by
  intro pins s σ H Q I h
  refine wpAny_Call_Name_kw (ld_blt I hg hm (by decide +kernel : bootBuiltins "max" = some (.builtin "max")) ?_)
  refine PyProof.Rows.callWith_kw ?_ (by rw [hs]; rfl) (by rw [hs]; rfl)
  rw [hs]
  refine Calls.spliced_cons (thn (he pins s σ H _ I h) fun u s1 ⟨x, H1, I1, r1, a, F, ex, hq, q⟩ => ?_)
  refine Calls.spliced_nil ?_
  have hk := (pk_cons (nm := some (Str.ofString "default")) (kpos := kpos) (pe_int (X := X) (i := 0) (j := ck) (pos := cpos)) (pk_nil (X := X))) pos pins s1 σ H1 (fun vs H2 => vs = [V.int 0] ∧ H2 = H1) I1 ⟨rfl, rfl⟩
  refine thn hk fun us s2 ⟨vs, H2, I2, r2, ev, eH⟩ => ?_
  subst ev eH ex
  cases r1
  obtain ⟨u, rfl, t, rfl⟩ := vals1 r2
  rw [vN_int] at hq
  obtain ⟨its, rv, hl, _⟩ := I2.list hq
  refine maxD_raw (I2.ok.hd hc) hl.isList rv.ints (fun e h2 tk2 kk => ⟨.int 0, H2, I2.kept kk, ⟨_, rfl⟩, ?_⟩) (fun h2 tk2 M t2 kk m1 m2 => ⟨.int M, H2, I2.kept kk, ⟨_, rfl⟩, ?_⟩)
  · have : F = [] := by simpa using e
    subst this; exact q
  · obtain ⟨n, hn, rfl⟩ := List.mem_map.mp m1
    have : maxN F = n := maxN_is hn fun y hy => by
      have := m2 (y : Int) (List.mem_map_of_mem hy)
      omega
    rw [← this]; exact q
def RowsN (K : PySem.W.Frag) (H : Hp) (r : Addr) (M : List (List Nat)) : Prop := ∃ as : List Addr, SqL K H r (as.map V.ref) ∧ as.length = M.length ∧ ∀ (k : Nat) (a : Addr), as[k]? = some a → SqL K H a (vN (M.getD k []))
theorem RowsN.same {H H' : Hp} {r : Addr} {M : List (List Nat)} (s : Same H H') (h : RowsN K H r M) : RowsN K H' r M := by
  obtain ⟨as, h1, h2, h3⟩ := h
  exact ⟨as, s.seq h1, h2, fun k a e => s.seq (h3 k a e)⟩
def sumsP (F : List Nat) : List (List Nat) := (List.range (gOf F)).map (psums F)
theorem sumsP_len (F : List Nat) : (sumsP F).length = gOf F := by simp [sumsP]
theorem sumsP_getD {F : List Nat} {k : Nat} (h : k < gOf F) : (sumsP F).getD k [] = psums F k := by
  unfold sumsP
  rw [List.getD_eq_getElem?_getD, List.getElem?_map, List.getElem?_range h]; rfl
theorem refs_of {xs : List V} {R : Nat → Addr → Prop} (h : ∀ (k : Nat) (v : V), xs[k]? = some v → ∃ b, v = .ref b ∧ R k b) : ∃ bs : List Addr, xs = bs.map V.ref ∧ bs.length = xs.length ∧ ∀ (k : Nat) (b : Addr), bs[k]? = some b → R k b := by
  refine ⟨xs.map fun v => match v with | .ref b => b | _ => 0, ?_, by simp, fun k b e => ?_⟩
  · refine List.ext_getElem? fun k => ?_
    rw [List.getElem?_map, List.getElem?_map]
    cases e : xs[k]? with
    | none => rfl
    | some v =>
      obtain ⟨b, rfl, _⟩ := h k v e
      rfl
  · rw [List.getElem?_map] at e
    cases e2 : xs[k]? with
    | none => rw [e2] at e; cases e
    | some v =>
      obtain ⟨b', rfl, a2⟩ := h k v e2
      rw [e2] at e
      cases e
      exact a2
def spShift (K : PySem.W.Frag) : Sp := fun vs H Q _ => ∃ (q : Addr) (F : List Nat), vs = [.ref q] ∧ SqL K H q (vN F) ∧ F.length ≤ 1024 ∧ ∀ D H', H D = none → Same H H' → RowsN K H' D (sumsP F) → Q (.ref D) H'
theorem sc_shifted_sums : FnScope ["folded", "greatest", "g"] ["folded"] (defScope s_shifted_sums) := ⟨rfl, rfl, rfl, by decide +kernel, rfl, by decide +kernel, by decide +kernel⟩
theorem ok_shifted_sums (T : Txt K mg A) : FnOk P w K mg base CX0 2 A.f_shifted_sums A.d_shifted_sums ["folded"] (spShift K) := by
  refine T.F_shifted_sums.ok sc_shifted_sums (fun vs H Q E h => ?_) (fun cdv Ar outer s H vs Q E hr h => ?_)
  · obtain ⟨q, F, rfl, _⟩ := h
    rfl
  · obtain ⟨q, F, rfl, hq, hl, k⟩ := h
    refine ⟨_, pss_cons (ps_set (i := 1) sc_shifted_sums.nd rfl (Or.inl rfl) (pe_bm0 PySem.F.plainAttrs_int PyProof.Rows.slot_int_bit_length PyProof.Rows.type_int_bit_length mt_bitlen (pe_maxN rfl rfl T.z_max (pv 0))))
      (pss_one (ps_ret (pe_lc (own := [("g", 2)]) rfl sc_shifted_sums.nd (pi_range1 rfl T.z_range (pa_cons (pe_callB (call_min2 rfl) rfl T.z_min (by decide +kernel : bootBuiltins "min" = some (.builtin "min")) (pa_cons (pe_gi rfl T.g_PLAIN) (pa_cons (pe_op op_add (pv 1) pe_int) pa_nil))) pa_nil))
        (blkOk_by (by kernel_rfl)) (fun _ _ _ _ _ => pg_name (i := 2) sc_shifted_sums.nd rfl (Or.inl rfl)) (fun _ _ _ _ _ => pts_nil)
        (fun _ _ _ _ _ => pe_call (ok_running_sums T) hr rfl T.m_running_sums T.F_running_sums.kp T.b_running_sums .nil pass0 (pa_cons (pv 0) (pa_cons (pv 2) pa_nil)))))), ?_⟩
    refine ⟨_, rfl, q, F, rfl, hq, rfl, _, rfl, rfl, ?_⟩
    rw [bl_int]
    have e62 : (2 : Int) ^ 62 = 4611686018427387904 := by decide
    have hG : (if ((bl (maxN F) : Nat) : Int) + 1 < 31 then ((bl (maxN F) : Nat) : Int) + 1 else 31) = ((gOf F : Nat) : Int) := by unfold gOf; split <;> omega
    have hg31 := (gOf_ok (F := F)).2
    refine ⟨_, rfl, _, _, rfl, rfl, _, _, rfl, _, rfl, ?_, ?_, fun D hD => ?_⟩
    · rw [hG]; omega
    · rw [hG]; omega
    rw [hG, Int.toNat_natCast]
    refine lc_rel (J := Itr 0 (gOf F)) hD (gOf F) (by rw [sizeLine_eq]; omega) (fun j v Hq => ∃ b, v = .ref b ∧ SqL K Hq b (vN (psums F j))) (fun j v H1 H2 _ ss ⟨b, a1, a2⟩ => ⟨b, a1, ss.seq a2⟩)
      (fun i Hh hi s1 => hi) (fun Hh s1 => Nat.le_refl _) ?_ ?_
    · rintro i Hh z H' hi s1 ⟨acc, hacc⟩ ⟨rfl, rfl⟩ C hC
      rw [Int.zero_add]
      refine ⟨rfl, _, rfl, _, rfl, q, F, i, rfl, s1.seq hq, hl, fun D2 H6 hD2 s6 hx6 => ?_⟩
      refine hC _ _ s6 ⟨D2, rfl, SqL.of ?_⟩
      rw [hide_ne]
      · exact hx6
      · intro e
        rw [e, hacc] at hD2
        cases hD2
    · intro Hh xs s1 hlen hp hx
      obtain ⟨bs, rfl, hb1, hb2⟩ := refs_of (R := fun j b => SqL K Hh b (vN (psums F j))) hp
      refine k D Hh hD s1 ⟨bs, SqL.of hx, by rw [sumsP_len, hb1, hlen], fun j b e => ?_⟩
      have hj : j < gOf F := by have := (List.getElem?_eq_some_iff.mp e).1; omega
      rw [sumsP_getD hj]
      exact hb2 j b e
def stLG (X : List Nat) (G i : Nat) : Nat × Nat := ((List.range G).reverse.take i).foldl (lgStep X) (31, 11 + X.length * bl (maxN X))
theorem rev_get {G i : Nat} (h : i < G) : (List.range G).reverse[i]? = some (G - 1 - i) := by
  rw [List.getElem?_reverse (by simpa using h), List.length_range, List.getElem?_range (by omega)]
theorem stLG_succ {X : List Nat} {G i : Nat} (h : i < G) : stLG X G (i + 1) = lgStep X (stLG X G i) (G - 1 - i) := by
  unfold stLG
  rw [List.take_succ, rev_get h, List.foldl_append]; rfl
theorem stLG_all (X : List Nat) (G : Nat) : stLG X G G = lgBest X G := by
  unfold stLG lgBest
  rw [List.take_of_length_le (by simp)]
def spLG (K : PySem.W.Frag) (C : Addr) : Sp := fun vs H Q _ => ∃ (q r : Addr) (F : List Nat) (a b : Nat), vs = [.int a, .int b, .ref q, .ref r] ∧ SqL K H q (vN F) ∧ RowsN K H r (sumsP F) ∧ (a ≤ b ∧ b ≤ F.length ∧ F.length ≤ 1024) ∧
  ∀ x H', H x = none → Same H H' → IsGW C H' x (leastGroup F (gOf F) a b) → Q (.ref x) H'
theorem sc_least_group : FnScope ["first", "last", "folded", "sums", "count", "v", "g", "bits", "lower", "lower_bits"] ["first", "last", "folded", "sums"] (defScope s_least_group) := ⟨rfl, rfl, rfl, by decide +kernel, rfl, by decide +kernel, by decide +kernel⟩
theorem psums_get {F : List Nat} {g t : Nat} (h : t ≤ F.length) : (vN (psums F g))[t]? = some (.int (pref F g t : Nat)) := by
  have hl : t < (psums F g).length := by simp [psums]; omega
  rw [vN_get hl]
  congr 3
  unfold psums
  rw [List.getD_eq_getElem?_getD, List.getElem?_map, List.getElem?_range (by omega)]; rfl
theorem ok_least_group (T : Txt K mg A) : FnOk P w K mg base CX0 3 A.f_least_group A.d_least_group ["first", "last", "folded", "sums"] (spLG K A.c_GroupWay) := by
  refine T.F_least_group.ok sc_least_group (fun vs H Q E h => ?_) (fun cdv Ar outer s H vs Q E hr h => ?_)
  · obtain ⟨q, r, F, a, b, rfl, _⟩ := h
    rfl
  · obtain ⟨q, r, F, a, b, rfl, hq, hR, ⟨h1, h2, h3⟩, k⟩ := h
    refine ⟨_, pss_cons (ps_set (i := 4) sc_least_group.nd rfl (Or.inl rfl) (pe_op op_sub (pv 1) (pv 0)))
      (pss_cons (ps_set (i := 5) sc_least_group.nd rfl (Or.inl rfl) (pe_bm0 PySem.F.plainAttrs_int PyProof.Rows.slot_int_bit_length PyProof.Rows.type_int_bit_length mt_bitlen (pe_maxN rfl rfl T.z_max (pe_slice sl_list (pv 2) (po_some (pv 0)) (po_some (pv 1))))))
      (pss_cons (ps_set (i := 6) sc_least_group.nd rfl (Or.inl rfl) (pe_gi rfl T.g_PLAIN))
      (pss_cons (ps_set (i := 7) sc_least_group.nd rfl (Or.inl rfl) (pe_op op_add pe_int (pe_op op_mul (pv 4) (pv 5))))
      (pss_cons (ps_for PassesOwn.never rfl (pi_range3 rfl T.z_range (pa_cons (pe_op op_sub (pe_callB call_len_seq (by rfl) T.z_len PySem.boot_len (pa_cons (pv 3) pa_nil)) pe_int) (pa_cons (pe_un un_neg pe_int) (pa_cons (pe_un un_neg pe_int) pa_nil)))) (pg_name (i := 8) sc_least_group.nd rfl (Or.inl rfl))
        (pss_cons (ps_set (i := 9) sc_least_group.nd rfl (Or.inl rfl) (pe_op op_sub (pe_op op_add (pe_op op_add pe_int (pe_op op_mul (pv 4) (pe_op op_add (pv 8) pe_int))) (pe_ix ix_list (pe_ix ix_list (pv 3) (pv 8) (fun _ _ => rfl)) (pv 1) (fun _ _ => rfl))) (pe_ix ix_list (pe_ix ix_list (pv 3) (pv 8) (fun _ _ => rfl)) (pv 0) (fun _ _ => rfl))))
        (pss_one (ps_if (pt_cmpR op_le (pv 9) (pv 7) (nomark _)) (pss_cons (ps_set (i := 6) sc_least_group.nd rfl (Or.inl rfl) (pv 8)) (pss_one (ps_set (i := 7) sc_least_group.nd rfl (Or.inl rfl) (pv 9)))) pss_nil))))
      (pss_one (ps_ret (pe_make T.k_GroupWay (ok_GroupWay_init T) hr rfl T.m_GroupWay T.b_GroupWay_init .nil pass0 (pa_cons (pv 0) (pa_cons (pv 1) (pa_cons (pv 6) (pa_cons (pv 5) (pa_cons (pv 7) pa_nil))))))))))))
      , ?_⟩
    have e62 : (2 : Int) ^ 62 = 4611686018427387904 := by decide
    refine ⟨_, rfl, _, rfl, _, _, rfl, rfl, ?_⟩
    refine ⟨_, rfl, _, rfl, _, rfl, _, rfl, _, rfl, q, _, rfl, hq, fun ps hps => ?_⟩
    rw [cutN h1 h2]
    have s1 : Same H (upd H ps (.lst (vN (slice F a b)))) := same_new hps
    refine ⟨ps, slice F a b, rfl, SqL.of upd_same, rfl, _, rfl, rfl, ?_⟩
    rw [bl_int]
    have hX : (slice F a b).length = b - a := slice_len h2
    have eba : (b : Int) - (a : Int) = (((slice F a b).length : Nat) : Int) := by omega
    refine ⟨_, rfl, _, rfl, _, _, rfl, rfl, .inl ⟨by omega, by omega⟩, _, _, rfl, rfl, ?_⟩
    obtain ⟨as, r1, r2, r3⟩ := id (hR.same s1)
    rw [sumsP_len] at r2
    have hg31 := gOf_ok (F := F)
    refine ⟨_, rfl, r, _, rfl, .inl r1, _, _, rfl, rfl, _, rfl, _, rfl, _, _, _, _, rfl, RgC.neg (by rw [List.length_map]; omega) (by rw [List.length_map]; omega) (by omega) (by omega), ?_⟩
    have en : ((((as.map V.ref).length : Nat) : Int) - 1 - -1).toNat = gOf F := by rw [List.length_map, r2]; omega
    rw [en]
    refine for_rangeC (lo := (((as.map V.ref).length : Nat) : Int) - 1) (c := -1) (n := gOf F) (fun i σ H' => H' = upd H ps (.lst (vN (slice F a b))) ∧ ∃ v8 v9 : Option V, σ = [some (.int a), some (.int b), some (.ref q), some (.ref r), some (.int ((b : Int) - a)), some (.int (bl (maxN (slice F a b)) : Nat)), some (.int ((stLG (slice F a b) (gOf F) i).1 : Nat)), some (.int ((stLG (slice F a b) (gOf F) i).2 : Nat)), v8, v9])
      ⟨rfl, none, none, ?_⟩ ?_ ?_
    · show [some (V.int a), some (V.int b), some (V.ref q), some (V.ref r), some (V.int ((b : Int) - a)), some (V.int (bl (maxN (slice F a b)) : Nat)), some (V.int 31), some (V.int (11 + ((b : Int) - a) * (bl (maxN (slice F a b)) : Nat))), none, none] = _
      have : (11 + ((b : Int) - a) * (bl (maxN (slice F a b)) : Nat)) = ((stLG (slice F a b) (gOf F) 0).2 : Nat) := by
        rw [eba]
        show _ = ((11 + (slice F a b).length * bl (maxN (slice F a b)) : Nat) : Int)
        rw [Int.natCast_add, Int.natCast_mul]; rfl
      rw [this]
      rfl
    · rintro i σ H' hi ⟨rfl, v8, v9, rfl⟩
      have elo : (((as.map V.ref).length : Nat) : Int) - 1 + (i : Nat) * (-1) = ((gOf F - 1 - i : Nat) : Int) := by rw [List.length_map, r2]; omega
      rw [elo]
      have hlo : gOf F - 1 - i < gOf F := by omega
      obtain ⟨al, hal⟩ : ∃ al, as[gOf F - 1 - i]? = some al := ⟨_, List.getElem?_eq_getElem (by omega)⟩
      have hsl := r3 _ _ hal
      rw [sumsP_getD hlo] at hsl
      have at1 : atI (as.map V.ref) ((gOf F - 1 - i : Nat) : Int) = some (V.ref al) := atI_nat (by rw [List.getElem?_map, hal]; rfl)
      refine ⟨_, rfl, _, rfl, _, _, rfl, rfl, _, _, rfl, rfl, .inl ⟨by omega, by omega⟩, _, _, rfl, rfl, _, rfl, _, rfl, r, _, _, _, rfl, rfl, r1, at1, _, rfl, al, _, _, _, rfl, rfl, hsl, atI_nat (psums_get h2), _, _, rfl, rfl,
        _, rfl, _, rfl, r, _, _, _, rfl, rfl, r1, at1, _, rfl, al, _, _, _, rfl, rfl, hsl, atI_nat (psums_get (by omega)), _, _, rfl, rfl, ?_⟩
      have ecost : 5 + ((b : Int) - a) * (((gOf F - 1 - i : Nat) : Int) + 1) + ((pref F (gOf F - 1 - i) b : Nat) : Int) - ((pref F (gOf F - 1 - i) a : Nat) : Int) = ((cost (slice F a b) (gOf F - 1 - i) : Nat) : Int) := by
        rw [eba, pref_slice h1 h2]
        unfold cost
        generalize gOf F - 1 - i = lw
        push_cast
        omega
      refine ⟨_, rfl, _, rfl, _, _, rfl, rfl, _, rfl, ?_⟩
      have hst := stLG_succ (X := slice F a b) hi
      refine ite2 (fun hc => ?_) (fun hc => ?_)
      · have hc : 5 + ((b : Int) - a) * (((gOf F - 1 - i : Nat) : Int) + 1) + ((pref F (gOf F - 1 - i) b : Nat) : Int) - ((pref F (gOf F - 1 - i) a : Nat) : Int) ≤ ((stLG (slice F a b) (gOf F) i).2 : Nat) := of_decide_eq_true hc
        rw [ecost] at hc
        refine ⟨_, rfl, _, rfl, rfl, some (.int ((gOf F - 1 - i : Nat) : Int)), some (.int ((cost (slice F a b) (gOf F - 1 - i) : Nat) : Int)), ?_⟩
        show [some (V.int a), some (V.int b), some (V.ref q), some (V.ref r), some (V.int ((b : Int) - a)), some (V.int (bl (maxN (slice F a b)) : Nat)), some (V.int ((gOf F - 1 - i : Nat) : Int)), some (V.int (5 + ((b : Int) - a) * (((gOf F - 1 - i : Nat) : Int) + 1) + ((pref F (gOf F - 1 - i) b : Nat) : Int) - ((pref F (gOf F - 1 - i) a : Nat) : Int))), some (V.int ((gOf F - 1 - i : Nat) : Int)), some (V.int (5 + ((b : Int) - a) * (((gOf F - 1 - i : Nat) : Int) + 1) + ((pref F (gOf F - 1 - i) b : Nat) : Int) - ((pref F (gOf F - 1 - i) a : Nat) : Int)))] = _
        rw [ecost, hst]
        unfold lgStep
        rw [if_pos (by omega)]
      · have hc : ¬ (5 + ((b : Int) - a) * (((gOf F - 1 - i : Nat) : Int) + 1) + ((pref F (gOf F - 1 - i) b : Nat) : Int) - ((pref F (gOf F - 1 - i) a : Nat) : Int) ≤ ((stLG (slice F a b) (gOf F) i).2 : Nat)) := fun z => hc (decide_eq_true z)
        rw [ecost] at hc
        refine ⟨rfl, some (.int ((gOf F - 1 - i : Nat) : Int)), some (.int ((cost (slice F a b) (gOf F - 1 - i) : Nat) : Int)), ?_⟩
        show [some (V.int a), some (V.int b), some (V.ref q), some (V.ref r), some (V.int ((b : Int) - a)), some (V.int (bl (maxN (slice F a b)) : Nat)), some (V.int ((stLG (slice F a b) (gOf F) i).1 : Nat)), some (V.int ((stLG (slice F a b) (gOf F) i).2 : Nat)), some (V.int ((gOf F - 1 - i : Nat) : Int)), some (V.int (5 + ((b : Int) - a) * (((gOf F - 1 - i : Nat) : Int) + 1) + ((pref F (gOf F - 1 - i) b : Nat) : Int) - ((pref F (gOf F - 1 - i) a : Nat) : Int)))] = _
        rw [ecost, hst]
        unfold lgStep
        rw [if_neg (by omega)]
    · rintro σ H' ⟨rfl, v8, v9, rfl⟩
      rw [stLG_all]
      refine ⟨_, rfl, _, rfl, _, rfl, _, rfl, _, rfl, ?_⟩
      intro x dx hx hdx hne
      refine ⟨x, dx, _, _, _, _, _, rfl, upd_same, rfl, ?_⟩
      rw [upd_made]
      exact k x _ (s1.free hx) (s1.trans (same_made hx hdx)) ⟨dx, upd_same⟩
def GWs (K : PySem.W.Frag) (C : Addr) (H : Hp) (D : Addr) (gs : List GW) : Prop := ∃ as : List Addr, H D = some (.lst (as.map V.ref)) ∧ as.length = gs.length ∧ ∀ (k : Nat) (a : Addr) (g : GW), as[k]? = some a → gs[k]? = some g → IsGW C H a g
theorem GWs.same {C : Addr} {H H' : Hp} {D : Addr} {gs : List GW} (s : Same H H') (h : GWs K C H D gs) : GWs K C H' D gs := by
  obtain ⟨as, h1, h2, h3⟩ := h
  exact ⟨as, s _ _ h1, h2, fun k a g e1 e2 => (h3 k a g e1 e2).same s⟩
def rwf (r g b : V) : List (Str × V) := [("r", r), ("groups", g), ("bits", b)]
theorem rwf_put (r g b : V) : putF "bits" b (putF "groups" g (putF "r" r [])) = rwf r g b := by
  have e1 : putF "r" r [] = [(("r" : Str), r)] := rfl
  rw [e1]
  have n1 : ¬ ("r" : Str) = "groups" := by decide
  have n2 : ¬ ("r" : Str) = "bits" := by decide
  have n3 : ¬ ("groups" : Str) = "bits" := by decide
  simp only [putF, if_neg n1, if_neg n2, if_neg n3]
  rfl
theorem rwf_bits (r g b : V) : (rwf r g b).lookup ("bits" : Str) = some b := rfl
def IsRW (K : PySem.W.Frag) (Cr Cg : Addr) (H : Hp) (x : Addr) (q : RW) : Prop := ∃ dx p, H x = some (.ins Cr dx (rwf (.int q.r) (.ref p) (.int q.bits))) ∧ GWs K Cg H p q.groups
theorem IsRW.same {Cr Cg : Addr} {H H' : Hp} {x : Addr} {q : RW} (s : Same H H') (h : IsRW K Cr Cg H x q) : IsRW K Cr Cg H' x q := by
  obtain ⟨dx, p, h1, h2⟩ := h
  exact ⟨dx, p, s _ _ h1, h2.same s⟩
def spRWi (K : PySem.W.Frag) (Cr Cg : Addr) : Sp := fun vs H Q _ => ∃ (p dx ga : Addr) (r : Nat) (gs : List GW), vs = [.ref p, .int r, .ref ga] ∧ H p = some (.ins Cr dx []) ∧ GWs K Cg H ga gs ∧ ga ≠ p ∧ Cg ≠ Cr ∧ gs.length ≤ 1024 ∧
  ∀ H', (∀ b o, H b = some o → b ≠ p → H' b = some o) → H' p = some (.ins Cr dx (rwf (.int r) (.ref ga) (.int ((3 + (gs.map GW.bits).sum : Nat) : Int)))) → Q .non H'
theorem gw_bits (g : GW) : (gwf g.first g.last g.g g.v g.bits).lookup ("bits" : Str) = some (.int g.bits) := rfl
theorem upd_but {H : Hp} {p : Addr} {o : HO} {xs : List V} {ga : Addr} (hne : ga ≠ p) (h : SqL K H ga xs) : SqL K (upd H p o) ga xs := by
  rcases h with (h | ⟨ob, h⟩) | h
  · exact .inl (.inl (by rw [upd_ne hne]; exact h))
  · exact .inl (.inr ⟨ob, by rw [upd_ne hne]; exact h⟩)
  · exact .inr h
theorem sc_RestsWay_init : FnScope ["self", "r", "groups", "group"] ["self", "r", "groups"] (defScope s_RestsWay_init) := ⟨rfl, rfl, rfl, by decide +kernel, rfl, by decide +kernel, by decide +kernel⟩
theorem ok_RestsWay_init (T : Txt K mg A) : FnOk P w K mg base CX0 1 A.f_RestsWay_init A.d_RestsWay_init ["self", "r", "groups"] (spRWi K A.c_RestsWay A.c_GroupWay) := by
  refine T.F_RestsWay_init.ok sc_RestsWay_init (fun vs H Q E h => ?_) (fun cdv Ar outer s H vs Q E hr h => ?_)
  · obtain ⟨p, dx, ga, r, gs, rfl, _⟩ := h
    rfl
  · obtain ⟨p, dx, ga, r, gs, rfl, hp, ⟨as, g1, g2, g3⟩, hne, hCC, hl, k⟩ := h
    refine ⟨_, pss_cons (ps_fld (pv 0) (pv 1) rfl) (pss_cons (ps_fld (pv 0) (pv 2) rfl) (pss_one (ps_fld (pv 0) (pe_op op_add pe_int (pe_callB (cr_sum rfl) rfl T.z_sum (by decide +kernel : bootBuiltins "sum" = some (.builtin "sum"))
      (pa_cons (pe_lc (own := [("group", 3)]) rfl sc_RestsWay_init.nd (pi_list (pv 2)) (blkOk_by (by kernel_rfl)) (fun _ _ _ _ _ => pg_name (i := 3) sc_RestsWay_init.nd rfl (Or.inl rfl)) (fun _ _ _ _ _ => pts_nil) (fun _ _ _ _ _ => pfldK (K := K) rfl (pv 3) rfl)) pa_nil))) rfl))), ?_⟩
    have f1 : (putF "r" (.int r) []).length ≤ 1 := length_putF _ _ _
    have f2 : (putF "groups" (.ref ga) (putF "r" (.int r) [])).length ≤ 2 := Nat.le_trans (length_putF _ _ _) (by omega)
    refine ⟨_, rfl, _, rfl, p, A.c_RestsWay, dx, _, rfl, hp, T.l_RestsWay, T.n_RestsWay_r, (by show 0 < 1000; decide), ?_⟩
    refine ⟨_, rfl, _, rfl, p, A.c_RestsWay, dx, _, rfl, upd_same, T.l_RestsWay, T.n_RestsWay_groups, by omega, ?_⟩
    rw [upd_upd]
    have g1' := upd_but (p := p) (o := .ins A.c_RestsWay dx (putF "groups" (.ref ga) (putF "r" (.int r) []))) hne (SqL.of (K := K) g1)
    refine ⟨_, rfl, ga, rfl, ⟨_, g1'⟩, fun D hD => ?_⟩
    have hlen : (as.map V.ref).length = gs.length := by rw [List.length_map, g2]
    have hget : ∀ i, i < gs.length → ∃ a g, as[i]? = some a ∧ gs[i]? = some g ∧ IsGW A.c_GroupWay H a g := fun i hi =>
      ⟨as[i]'(by omega), gs[i], List.getElem?_eq_getElem (by omega), List.getElem?_eq_getElem hi, g3 i _ _ (List.getElem?_eq_getElem (by omega)) (List.getElem?_eq_getElem hi)⟩
    refine lc_val (J := Itl K ga) hD gs.length (by rw [sizeLine_eq]; omega) (fun i => .int ((((gs.map GW.bits).getD i 0 : Nat) : Int))) (fun i Hh hi s1 => ⟨_, _, s1.seq g1', List.getElem?_eq_getElem (by omega)⟩) (fun Hh s1 => ⟨_, s1.seq g1', by omega⟩) ?_ ?_
    · rintro i Hh x H' hi s1 ⟨rfl, hx⟩ C hC
      obtain ⟨a, g, e1, e2, dg, hg⟩ := hget i hi
      have hx := hx _ (s1.seq g1')
      rw [List.getElem?_map, e1] at hx
      cases hx
      have hap : a ≠ p := by
        intro e
        rw [e, hp] at hg
        injection hg with hg
        injection hg with hg
        exact hCC hg.symm
      refine ⟨rfl, _, rfl, a, A.c_GroupWay, dg, _, _, rfl, s1 _ _ (by rw [upd_ne hap]; exact hg), T.l_GroupWay, T.n_GroupWay_bits, gw_bits g, ?_⟩
      have : (gs.map GW.bits).getD i 0 = g.bits := by rw [List.getD_eq_getElem?_getD, List.getElem?_map, e2]; rfl
      have q := hC H' (Same.refl _)
      rw [this] at q
      exact q
    · intro Hh s1 hx
      have ev : (List.range gs.length).map (fun i => V.int ((((gs.map GW.bits).getD i 0 : Nat) : Int))) = ((gs.map GW.bits).map fun (n : Nat) => (n : Int)).map V.int := by
        refine List.ext_getElem (by simp) fun i h1 h2 => ?_
        have hi : i < (gs.map GW.bits).length := by simpa using h2
        simp [List.getD_eq_getElem?_getD, List.getElem?_eq_getElem (show i < gs.length by simpa using hi)]
      rw [ev] at hx
      have hps : Hh p = some (.ins A.c_RestsWay dx (putF "groups" (.ref ga) (putF "r" (.int r) []))) := s1 _ _ upd_same
      have esum : ∀ l : List Nat, (l.map fun (n : Nat) => (n : Int)).sum = ((l.sum : Nat) : Int) := fun l => by
        induction l with
        | nil => rfl
        | cons x l ih => rw [List.map_cons, List.sum_cons, List.sum_cons, ih]; omega
      refine ⟨D, _, rfl, SqL.of hx, _, _, rfl, rfl, _, rfl, p, A.c_RestsWay, dx, _, rfl, hps, T.l_RestsWay, T.n_RestsWay_bits, by omega, ?_⟩
      rw [rwf_put, esum]
      refine k _ (fun b o e hb => ?_) ?_
      · rw [upd_ne hb]
        exact s1 _ _ (by rw [upd_ne hb]; exact e)
      · rw [upd_same]
        congr 3
theorem rng_up {i j c : Int} {m : Nat} (hi : 0 ≤ i) (hi2 : i < 4096) (hj : 0 ≤ j) (hj2 : j < 4096) (hc : 0 < c) (hc2 : c < 4096) (hm : Builtin.Range.rangeSize i j c = m) (hm2 : m ≤ 4096) : RgC i j c m := by
  refine ⟨by omega, by omega, ?_, hm⟩
  unfold Builtin.Range.small
  rw [hm]
  simp only [Builtin.Range.rangeFitsLong, Bool.and_eq_true, Bool.or_eq_true, decide_eq_true_eq, beq_iff_eq, show c > 0 from hc, if_true]
  omega
theorem IsGW.upd {C : Addr} {H : Hp} {x D : Addr} {g : GW} {xs : List V} {o : HO} (h : IsGW C H x g) (hD : H D = some (.lst xs)) : IsGW C (upd H D o) x g := by
  obtain ⟨dx, h⟩ := h
  have : x ≠ D := ne_of h hD (by intro e; cases e)
  exact ⟨dx, by rw [upd_ne this]; exact h⟩
def spSplit (K : PySem.W.Frag) (C : Addr) : Sp := fun vs H Q _ => ∃ (q sm : Addr) (F : List Nat) (n p r : Nat), vs = [.int n, .int p, .int r, .ref q, .ref sm] ∧ SqL K H q (vN F) ∧ RowsN K H sm (sumsP F) ∧ canSplit n p r = true ∧ F.length + p = n ∧ (1 ≤ n ∧ n ≤ 1024) ∧
  ∀ D H', H D = none → Same H H' → GWs K C H' D (splitGroups n p r F (gOf F)) → Q (.ref D) H'
theorem sc_split_groups : FnScope ["n", "order", "r", "folded", "sums", "size", "groups", "first", "last"] ["n", "order", "r", "folded", "sums"] (defScope s_split_groups) := ⟨rfl, rfl, rfl, by decide +kernel, rfl, by decide +kernel, by decide +kernel⟩
theorem ok_split_groups (T : Txt K mg A) : FnOk P w K mg base CX0 4 A.f_split_groups A.d_split_groups ["n", "order", "r", "folded", "sums"] (spSplit K A.c_GroupWay) := by
  refine T.F_split_groups.ok sc_split_groups (fun vs H Q E h => ?_) (fun cdv Ar outer s H vs Q E hr h => ?_)
  · obtain ⟨q, sm, F, n, p, r, rfl, _⟩ := h
    rfl
  · obtain ⟨q, sm, F, n, p, r, rfl, hq, hR, hcs, hF, ⟨hn1, hn2⟩, k⟩ := h
    refine ⟨_, pss_cons (ps_set (i := 5) sc_split_groups.nd rfl (Or.inl rfl) (pe_op op_shr (pv 0) (pv 2))) (pss_cons (ps_set (i := 6) sc_split_groups.nd rfl (Or.inl rfl) (pe_lst pa_nil)) (pss_cons (ps_set (i := 7) sc_split_groups.nd rfl (Or.inl rfl) pe_int)
      (pss_cons (ps_for PassesOwn.never rfl (pi_range3 rfl T.z_range (pa_cons (pe_op op_sub (pv 5) (pv 1)) (pa_cons (pe_op op_add (pe_op op_sub (pv 0) (pv 1)) pe_int) (pa_cons (pv 5) pa_nil)))) (pg_name (i := 8) sc_split_groups.nd rfl (Or.inl rfl))
        (pss_cons (ps_expr (pe_bm PySem.F.plainAttrs_list PySem.F.slot_list_append PySem.F.type_list_append mt_append (pv 6) (pa_cons (pe_call (ok_least_group T) hr rfl T.m_least_group T.F_least_group.kp T.b_least_group .nil pass0 (pa_cons (pv 7) (pa_cons (pv 8) (pa_cons (pv 3) (pa_cons (pv 4) pa_nil))))) pa_nil)))
        (pss_one (ps_set (i := 7) sc_split_groups.nd rfl (Or.inl rfl) (pv 8)))))
      (pss_one (ps_ret (pv 6)))))), ?_⟩
    unfold canSplit at hcs
    simp only [Bool.and_eq_true, decide_eq_true_eq] at hcs
    obtain ⟨hr6, hsz, hpz⟩ := hcs
    have esz : ((n : Int) / 2 ^ (r : Int).toNat) = ((n / 2 ^ r : Nat) : Int) := by rw [Int.toNat_natCast]; simp
    generalize hz : n / 2 ^ r = sz at *
    have hm0 : 0 < 2 ^ r := Nat.two_pow_pos r
    have hm64 : 2 ^ r ≤ 64 := Nat.le_trans (Nat.pow_le_pow_right (by decide) hr6) (by decide)
    have hfl : ∀ i, firstOf n p r i = if i = 0 then 0 else i * sz - p := fun i => by unfold firstOf; rw [hz]
    have hll : ∀ i, lastOf n p r i = (i + 1) * sz - p := fun i => by unfold lastOf; rw [hz]
    unfold splitGroups at k
    generalize hm : 2 ^ r = m at *
    have hszp : 0 < sz := by
      rcases Nat.eq_zero_or_pos sz with e | e
      · rw [e, Nat.zero_mul] at hsz; omega
      · exact e
    have hszn : sz ≤ n := by
      have : sz * 1 ≤ sz * m := Nat.mul_le_mul_left sz hm0
      omega
    refine ⟨_, rfl, _, rfl, _, _, rfl, rfl, (by omega), ?_⟩
    dsimp only
    rw [esz]
    refine ⟨Nat.zero_le _, fun D hD => ?_⟩
    have s0 : Same H (upd H D (.lst [])) := same_new hD
    have hrs : Builtin.Range.rangeSize ((sz : Int) - p) ((n : Int) - p + 1) (sz : Int) = (m : Nat) := by
      unfold Builtin.Range.rangeSize
      rw [if_pos (by omega), if_pos (by omega)]
      have e1 : (n : Int) - p + 1 - ((sz : Int) - p) - 1 = (sz : Int) * ((m : Int) - 1) := by
        rw [Int.mul_sub, Int.mul_one, ← Int.natCast_mul, hsz]; omega
      rw [e1, Int.mul_ediv_cancel_left _ (by omega)]
      omega
    refine ⟨_, rfl, _, rfl, _, _, rfl, rfl, _, rfl, _, rfl, _, _, rfl, rfl, _, _, rfl, rfl, _, rfl, _, _, _, m, rfl, rng_up (by omega) (by omega) (by omega) (by omega) (by omega) (by omega) hrs (by omega), ?_⟩
    refine for_rangeC (lo := (sz : Int) - p) (c := (sz : Int)) (n := m) (fun i σ H' => ∃ (v8 : Option V) (as : List Addr), σ = [some (.int n), some (.int p), some (.int r), some (.ref q), some (.ref sm), some (.int (sz : Nat)), some (.ref D), some (.int (firstOf n p r i : Nat)), v8] ∧ Same H H' ∧ H' D = some (.lst (as.map V.ref)) ∧ as.length = i ∧ ∀ (j : Nat) (a : Addr), as[j]? = some a → IsGW A.c_GroupWay H' a (leastGroup F (gOf F) (firstOf n p r j) (lastOf n p r j)))
      ⟨none, [], rfl, s0, upd_same, rfl, fun j a e => by simp at e⟩ ?_ ?_
    · rintro i σ H' hi ⟨v8, as, rfl, s1, hx, hl, hg⟩
      have hi1 : (i + 1) * sz ≤ m * sz := Nat.mul_le_mul_right sz hi
      have e1 : (i + 1) * sz = i * sz + sz := by rw [Nat.add_mul, Nat.one_mul]
      have hms : m * sz = n := by rw [Nat.mul_comm]; exact hsz
      have elast : (sz : Int) - p + (i : Nat) * (sz : Int) = ((lastOf n p r i : Nat) : Int) := by
        rw [hll, ← Int.natCast_mul]; omega
      rw [elast]
      have hfle : firstOf n p r i ≤ lastOf n p r i := by
        rw [hfl, hll]
        split
        · exact Nat.zero_le _
        · omega
      have hlF : lastOf n p r i ≤ F.length := by rw [hll]; omega
      refine ⟨_, rfl, .inl ⟨rfl, _, SqL.of hx⟩, _, rfl, _, rfl, _, rfl, _, rfl, q, sm, F, firstOf n p r i, lastOf n p r i, rfl, s1.seq hq, hR.same s1, ⟨hfle, hlF, by omega⟩, fun x H5 hx5 s5 hg5 => ?_⟩
      have hD5 := s5 _ _ hx
      refine ⟨D, _, _, rfl, rfl, hD5, (by rw [List.length_map, sizeLine_eq]; omega), _, rfl, some (.int (lastOf n p r i : Nat)), as ++ [x], ?_, same_keep (s1.trans s5) hD, ?_, by rw [List.length_append, hl]; rfl, fun j a e => ?_⟩
      · have : firstOf n p r (i + 1) = lastOf n p r i := by rw [hfl, hll, if_neg (by omega)]
        rw [this]; rfl
      · rw [upd_same, List.map_append]; rfl
      · by_cases hj : j < as.length
        · rw [List.getElem?_append_left hj] at e
          exact ((hg j a e).same s5).upd hD5
        · rw [List.getElem?_append_right (by omega)] at e
          have hj0 : j - as.length = 0 := by
            have := (List.getElem?_eq_some_iff.mp e).1
            simp at this; omega
          rw [hj0] at e
          have e := Option.some.inj e
          subst e
          have : j = i := by omega
          subst this
          exact hg5.upd hD5
    · rintro σ H' ⟨v8, as, rfl, s1, hx, hl, hg⟩
      refine ⟨_, rfl, k D H' hD s1 ⟨as, hx, by rw [List.length_map, List.length_range, hl], fun j a g e1 e2 => ?_⟩⟩
      rw [List.getElem?_map] at e2
      have hj : j < m := by have := (List.getElem?_eq_some_iff.mp e1).1; omega
      rw [List.getElem?_range hj] at e2
      cases e2
      exact hg j a e1
theorem ne_cls (T : Txt K mg A) : A.c_GroupWay ≠ A.c_RestsWay := by
  intro e
  have h1 := T.k_GroupWay.init
  have h2 := T.k_RestsWay.init
  rw [e, h2] at h1
  have hf : A.f_RestsWay_init = A.f_GroupWay_init := by
    injection h1 with h1
    injection h1 with h1
    injection h1
  obtain ⟨oc, od, kV, doc, pm, an, cdv, ct, osl, e1, l1, _⟩ := T.F_RestsWay_init.ex
  obtain ⟨oc', od', kV', doc', pm', an', cdv', ct', osl', e2, l2, _⟩ := T.F_GroupWay_init.ex
  rw [hf, l2] at l1
  injection l1 with l1
  injection l1 with _ _ l1 _
  injection l1 with l1
  rw [e1, e2] at l1
  have z : (Str.ofString "GroupWay.__init__") = Str.ofString "RestsWay.__init__" := congrArg FuncData.qualname l1
  exact absurd z (by decide)
def accLR (n p : Nat) (F : List Nat) (i : Nat) : Option RW := ((List.range 7).take i).foldl (lrStep n p F) none
theorem accLR_succ {n p : Nat} {F : List Nat} {i : Nat} (h : i < 7) : accLR n p F (i + 1) = lrStep n p F (accLR n p F i) i := by
  unfold accLR
  rw [List.take_succ, List.getElem?_range h, List.foldl_append]; rfl
theorem accLR_all (n p : Nat) (F : List Nat) : accLR n p F 7 = leastRests n p F := rfl
def LeastAt (K : PySem.W.Frag) (Cr Cg : Addr) (H : Hp) : Option RW → V → Prop
  | none, v => v = .non
  | some q, v => ∃ x, v = .ref x ∧ IsRW K Cr Cg H x q
theorem LeastAt.same {Cr Cg : Addr} {H H' : Hp} {o : Option RW} {v : V} (s : Same H H') (h : LeastAt K Cr Cg H o v) : LeastAt K Cr Cg H' o v := by
  cases o with
  | none => exact h
  | some q =>
    obtain ⟨x, e, h⟩ := h
    exact ⟨x, e, h.same s⟩
def spLeast (K : PySem.W.Frag) (Cr Cg : Addr) : Sp := fun vs H Q _ => ∃ (q : Addr) (es : List Int) (n p : Nat), vs = [.int n, .int p, .ref q] ∧ SqL K H q (es.map V.int) ∧ es.length + p = n ∧ (1 ≤ n ∧ n ≤ 1024) ∧
  ∀ rw_ x H', leastRests n p (es.map Sound.fold) = some rw_ → Same H H' → IsRW K Cr Cg H' x rw_ → Q (.ref x) H'
theorem sc_least_rests : FnScope ["n", "order", "rests", "folded", "sums", "least", "r", "way", "rest"] ["n", "order", "rests"] (defScope s_least_rests) := ⟨rfl, rfl, rfl, by decide +kernel, rfl, by decide +kernel, by decide +kernel⟩
theorem ok_least_rests (T : Txt K mg A) : FnOk P w K mg base CX0 5 A.f_least_rests A.d_least_rests ["n", "order", "rests"] (spLeast K A.c_RestsWay A.c_GroupWay) := by
  refine T.F_least_rests.ok sc_least_rests (fun vs H Q E h => ?_) (fun cdv Ar outer s H vs Q E hr h => ?_)
  · obtain ⟨q, es, n, p, rfl, _⟩ := h
    rfl
  · obtain ⟨q, es, n, p, rfl, hq, hes, ⟨hn1, hn2⟩, k⟩ := h
    have hr1 : Room 1 _ := hr.mono (by decide)
    have hr2 : Room 2 _ := hr.mono (by decide)
    refine ⟨_, pss_cons (ps_setLc (i := 3) (own := [("rest", 8)]) rfl sc_least_rests.nd rfl rfl rfl (pi_list (pv 2)) (blkOk_by (by kernel_rfl)) (fun _ _ _ _ _ => pg_name (i := 8) sc_least_rests.nd rfl (Or.inl rfl)) (fun _ _ _ _ _ => pts_nil)
        (fun _ _ _ _ _ => pe_call (ok_folded_rest T) hr1 rfl T.m_folded_rest T.F_folded_rest.kp T.b_folded_rest .nil pass0 (pa_cons (pv 8) pa_nil)))
      (pss_cons (ps_set (i := 4) sc_least_rests.nd rfl (Or.inl rfl) (pe_call (ok_shifted_sums T) hr2 rfl T.m_shifted_sums T.F_shifted_sums.kp T.b_shifted_sums .nil pass0 (pa_cons (pv 3) pa_nil)))
      (pss_cons (ps_set (i := 5) sc_least_rests.nd rfl (Or.inl rfl) pe_non)
      (pss_cons (ps_for PassesOwn.never rfl (pi_range1 rfl T.z_range (pa_cons (pe_op op_add (pe_gi rfl T.g_GREATEST_SPLIT) pe_int) pa_nil)) (pg_name (i := 6) sc_least_rests.nd rfl (Or.inl rfl))
        (pss_one (ps_if (pt_val (pe_call (ok_can_split T) hr1 rfl T.m_can_split T.F_can_split.kp T.b_can_split .nil pass0 (pa_cons (pv 0) (pa_cons (pv 1) (pa_cons (pv 6) pa_nil)))))
          (pss_cons (ps_set (i := 7) sc_least_rests.nd rfl (Or.inl rfl) (pe_make T.k_RestsWay (ok_RestsWay_init T) hr2 rfl T.m_RestsWay T.b_RestsWay_init .nil pass0 (pa_cons (pv 6) (pa_cons (pe_call (ok_split_groups T) hr rfl T.m_split_groups T.F_split_groups.kp T.b_split_groups .nil pass0 (pa_cons (pv 0) (pa_cons (pv 1) (pa_cons (pv 6) (pa_cons (pv 3) (pa_cons (pv 4) pa_nil)))))) pa_nil))))
          (pss_one (ps_if (pw_or (pt_cmp (pc_isN (pv 5))) (pw_or1 (pt_cmpR op_lt (pe_fld (pv 7) rfl) (pe_fld (pv 5) rfl) (nomark _)))).pt (pss_one (ps_set (i := 5) sc_least_rests.nd rfl (Or.inl rfl) (pv 7))) pss_nil))) pss_nil)))
      (pss_one (ps_ret (pv 5)))))), ?_⟩
    have e62 : (2 : Int) ^ 62 = 4611686018427387904 := by decide
    refine ⟨_, rfl, q, rfl, ⟨_, hq⟩, fun D hD => ?_⟩
    refine lc_val (J := Itl K q) hD es.length (by rw [sizeLine_eq]; omega) (fun i => .int ((Sound.fold (es.getD i 0) : Nat) : Int)) (fun i Hh hi s1 => ⟨_, _, s1.seq hq, int_get hi⟩) (fun Hh s1 => ⟨_, s1.seq hq, by simp⟩) ?_ ?_
    · rintro i Hh x H' hi s1 ⟨rfl, hx⟩ C hC
      obtain ⟨rfl, _⟩ := map_int_get (hx _ (s1.seq hq))
      exact ⟨rfl, _, rfl, _, rfl, hC _ (Same.refl _)⟩
    intro H1 s1 hx1
    have ev : (List.range es.length).map (fun i => V.int ((Sound.fold (es.getD i 0) : Nat) : Int)) = vN (es.map Sound.fold) := by
      unfold vN
      rw [List.map_map]
      refine List.ext_getElem (by simp) fun i h1 h2 => ?_
      have hi : i < es.length := by simpa using h2
      simp [List.getD_eq_getElem?_getD, List.getElem?_eq_getElem hi]
    rw [ev] at hx1
    have hFl : (es.map Sound.fold).length + p = n := by rw [List.length_map]; exact hes
    generalize es.map Sound.fold = F at hx1 hFl k
    refine ⟨_, rfl, D, F, rfl, SqL.of hx1, by omega, fun S H2 hS s2 hR2 => ?_⟩
    have hq2 : SqL K H2 D (vN F) := s2.seq (SqL.of hx1)
    refine ⟨_, _, rfl, rfl, _, rfl, by omega, by omega, ?_⟩
    refine for_range (lo := 0) (n := 7) (fun i σ H' => ∃ (v5 : V) (v6 v7 v8 : Option V), σ = [some (.int n), some (.int p), some (.ref q), some (.ref D), some (.ref S), some v5, v6, v7, v8] ∧ Same H2 H' ∧ LeastAt K A.c_RestsWay A.c_GroupWay H' (accLR n p F i) v5)
      ⟨.non, none, none, none, rfl, Same.refl _, rfl⟩ ?_ ?_
    · rintro i σ H3 hi ⟨v5, v6, v7, v8, rfl, s3, hL⟩
      rw [Int.zero_add]
      have hacc := accLR_succ (n := n) (p := p) (F := F) hi
      refine ⟨_, rfl, _, rfl, _, rfl, n, p, i, rfl, ⟨hn2, by omega⟩, _, rfl, ?_⟩
      refine ite2 (fun hc => ?_) fun hc => ?_
      · refine ⟨_, rfl, _, rfl, _, rfl, _, rfl, _, rfl, _, rfl, D, S, F, n, p, i, rfl, s3.seq hq2, hR2.same s3, hc, hFl, ⟨hn1, hn2⟩, fun gD H4 hgD s4 hG => ?_⟩
        intro x dx hx hdx hne
        have sm : Same H4 (upd (upd H4 dx (.own x)) x (.ins A.c_RestsWay dx [])) := same_made hx hdx
        have hgx : gD ≠ x := by
          obtain ⟨as, g1, _⟩ := hG
          exact ne_of_none g1 hx
        have hgl : (splitGroups n p i F (gOf F)).length ≤ 1024 := by
          unfold splitGroups
          rw [List.length_map, List.length_range]
          exact Nat.le_trans (Nat.pow_le_pow_right (by decide) (show i ≤ 6 by omega)) (by decide)
        refine ⟨x, dx, gD, i, _, rfl, upd_same, hG.same sm, hgx, ne_cls T, hgl, fun H5 kp hx5 => ⟨rfl, ?_⟩⟩
        have s45 : Same H4 H5 := Same.made hx hdx kp
        have s35 : Same H3 H5 := s4.trans s45
        have hnew : IsRW K A.c_RestsWay A.c_GroupWay H5 x (restsWay n p i F (gOf F)) := ⟨dx, gD, hx5, hG.same s45⟩
        have hL5 := hL.same s35
        have hlr : lrStep n p F (accLR n p F i) i = match accLR n p F i with
          | none => some (restsWay n p i F (gOf F))
          | some l => if (restsWay n p i F (gOf F)).bits < l.bits then some (restsWay n p i F (gOf F)) else some l := by
          unfold lrStep
          rw [if_pos hc]
          all_goals (cases accLR n p F i <;> rfl)
        cases hA : accLR n p F i with
        | none =>
          rw [hA] at hL5 hlr
          cases (show v5 = V.non from hL5)
          refine ⟨_, rfl, _, rfl, iteT (iteT ?_)⟩
          refine ⟨_, rfl, .ref x, _, _, _, rfl, s3.trans s35, ?_⟩
          rw [hacc, hA, hlr]
          exact ⟨x, rfl, hnew⟩
        | some q0 =>
          rw [hA] at hL5 hlr
          obtain ⟨x0, rfl, h0⟩ := hL5
          obtain ⟨dx0, p0, h01, h02⟩ := id h0
          refine ⟨_, rfl, _, rfl, iteF ?_⟩
          refine ⟨_, rfl, x, A.c_RestsWay, dx, _, _, rfl, hx5, T.l_RestsWay, T.n_RestsWay_bits, rwf_bits _ _ _, _, rfl, x0, A.c_RestsWay, dx0, _, _, rfl, h01, T.l_RestsWay, T.n_RestsWay_bits, rwf_bits _ _ _, _, _, rfl, rfl, _, rfl, ?_⟩
          refine ite2 (fun hlt => ?_) fun hlt => ?_
          · have hlt : (((3 + ((splitGroups n p i F (gOf F)).map GW.bits).sum : Nat)) : Int) < (q0.bits : Nat) := of_decide_eq_true hlt
            refine ⟨_, rfl, .ref x, _, _, _, rfl, s3.trans s35, ?_⟩
            rw [hacc, hA, hlr]
            have : (restsWay n p i F (gOf F)).bits < q0.bits := by
              show 3 + ((splitGroups n p i F (gOf F)).map GW.bits).sum < q0.bits
              omega
            simp only
            rw [if_pos this]
            exact ⟨x, rfl, hnew⟩
          · have hlt : ¬ ((((3 + ((splitGroups n p i F (gOf F)).map GW.bits).sum : Nat)) : Int) < (q0.bits : Nat)) := fun z => hlt (decide_eq_true z)
            refine ⟨.ref x0, _, _, _, rfl, s3.trans s35, ?_⟩
            rw [hacc, hA, hlr]
            have : ¬ (restsWay n p i F (gOf F)).bits < q0.bits := by
              show ¬ (3 + ((splitGroups n p i F (gOf F)).map GW.bits).sum < q0.bits)
              omega
            simp only
            rw [if_neg this]
            exact ⟨x0, rfl, h0⟩
      · refine ⟨v5, _, _, _, rfl, s3, ?_⟩
        rw [hacc]
        unfold lrStep
        rw [if_neg hc]
        exact hL
    · rintro σ H3 ⟨v5, v6, v7, v8, rfl, s3, hL⟩
      rw [accLR_all] at hL
      obtain ⟨w', hw, _⟩ := leastRests_some (n := n) (p := p) (by omega) F
      rw [hw] at hL
      obtain ⟨x, rfl, hI⟩ := hL
      exact ⟨_, rfl, k w' x H3 hw ((s1.trans s2).trans s3) hI⟩
def spZeros (K : PySem.W.Frag) : Sp := fun vs H Q _ => ∃ (q : Addr) (ns : List Int), vs = [.ref q] ∧ SqL K H q (ns.map V.int) ∧ Q (.int (zerosP ns)) H
theorem sc_shared_zeros : FnScope ["numbers", "together", "number"] ["numbers"] (defScope s_shared_zeros) := ⟨rfl, rfl, rfl, by decide +kernel, rfl, by decide +kernel, by decide +kernel⟩
theorem ok_shared_zeros (T : Txt K mg A) : FnOk P w K mg base CX0 1 A.f_shared_zeros A.d_shared_zeros ["numbers"] (spZeros K) := by
  refine T.F_shared_zeros.ok sc_shared_zeros (fun vs H Q E h => ?_) (fun cdv Ar outer s H vs Q E hr h => ?_)
  · obtain ⟨q, ns, rfl, _⟩ := h
    rfl
  · obtain ⟨q, ns, rfl, hq, k⟩ := h
    refine ⟨_, pss_cons (ps_set (i := 1) sc_shared_zeros.nd rfl (Or.inl rfl) pe_int)
      (pss_cons (ps_for PassesOwn.never rfl (pi_list (pv 0)) (pg_name (i := 2) sc_shared_zeros.nd rfl (Or.inl rfl)) (pss_one (ps_aug (i := 1) sc_shared_zeros.nd rfl (Or.inl rfl) (pv 2) iop_or)))
      (pss_one (ps_ret (pe_callB (call_max2 rfl) rfl T.z_max (by decide +kernel : bootBuiltins "max" = some (.builtin "max")) (pa_cons (pe_op op_sub (pe_bm0 PySem.F.plainAttrs_int PyProof.Rows.slot_int_bit_length PyProof.Rows.type_int_bit_length mt_bitlen (pe_op op_and (pv 1) (pe_un un_neg (pv 1)))) pe_int) (pa_cons pe_int pa_nil)))))), ?_⟩
    refine ⟨_, rfl, q, rfl, ⟨_, hq⟩, ?_⟩
    refine for_list (K := K) (a := q) (xs := ns.map V.int) (fun i σ H' => H' = H ∧ ∃ v2 : Option V, σ = [some (.ref q), some (.int (together (ns.take i))), v2]) ⟨rfl, none, rfl⟩ (fun i σ H' _ ⟨e, _⟩ => by rw [e]; exact hq) ?_ ?_
    · rintro i x σ H' hi ⟨rfl, v2, rfl⟩
      obtain ⟨rfl, hl⟩ := map_int_get hi
      refine ⟨_, rfl, _, rfl, _, _, rfl, rfl, rfl, some (.int (ns.getD i 0)), ?_⟩
      have e : together (ns.take (i + 1)) = Builtin.bitOr (together (ns.take i)) (ns.getD i 0) := by
        unfold together
        rw [List.take_succ, List.getElem?_eq_getElem hl, List.foldl_append, List.getD_eq_getElem?_getD, List.getElem?_eq_getElem hl]; rfl
      rw [e]; rfl
    · rintro σ H' ⟨rfl, v2, rfl⟩
      rw [List.length_map, List.take_length]
      refine ⟨_, rfl, _, rfl, _, rfl, _, _, rfl, rfl, rfl, _, rfl, rfl, _, _, rfl, rfl, _, _, rfl, ?_⟩
      exact k
def shf (z wd l : V) : List (Str × V) := [("z", z), ("width", wd), ("numbers", l)]
theorem shf1 (z : V) : putF "z" z [] = [(("z" : Str), z)] := rfl
theorem shf2 (z wd : V) : putF "width" wd [(("z" : Str), z)] = [(("z" : Str), z), ("width", wd)] := put1 _ _ _ _ (by decide)
theorem shf3 (z wd l : V) : putF "numbers" l [(("z" : Str), z), ("width", wd)] = shf z wd l := by
  have n1 : ¬ ("z" : Str) = "numbers" := by decide
  have n2 : ¬ ("width" : Str) = "numbers" := by decide
  simp only [putF, if_neg n1, if_neg n2]
  rfl
theorem sq_upd {H : Hp} {p q C dx : Addr} {fs : List (Str × V)} {o : HO} {xs : List V} (h : SqL K H q xs) (hp : H p = some (.ins C dx fs)) : SqL K (upd H p o) q xs := by
  rcases h with (h | ⟨ob, h⟩) | h
  · exact .inl (.inl (by rw [upd_ne (ne_of h hp (by intro e; cases e))]; exact h))
  · exact .inl (.inr ⟨ob, by rw [upd_ne (ne_of h hp (by intro e; cases e))]; exact h⟩)
  · exact .inr h
def IsShrunk (K : PySem.W.Frag) (C : Addr) (H : Hp) (x : Addr) (wd z : Nat) (y : List Int) : Prop := ∃ dx l, H x = some (.ins C dx (shf (.int z) (.int wd) (.ref l))) ∧ SqL K H l (y.map V.int)
theorem IsShrunk.same {C : Addr} {H H' : Hp} {x : Addr} {wd z : Nat} {y : List Int} (s : Same H H') (h : IsShrunk K C H x wd z y) : IsShrunk K C H' x wd z y := by
  obtain ⟨dx, l, h1, h2⟩ := h
  exact ⟨dx, l, s _ _ h1, s.seq h2⟩
def FitAll (w : Nat) (ns : List Int) : Prop := ∀ x ∈ ns, -(2 ^ (w - 1) : Int) ≤ x ∧ x < 2 ^ (w - 1)
def spShr (K : PySem.W.Frag) (C : Addr) : Sp := fun vs H Q _ => ∃ (p dx q : Addr) (wd : Nat) (ns : List Int), vs = [.ref p, .int wd, .ref q] ∧ H p = some (.ins C dx []) ∧ SqL K H q (ns.map V.int) ∧ (1 ≤ wd ∧ wd ≤ 25) ∧ FitAll wd ns ∧ ns.length ≤ 1024 ∧
  ∀ H', (∀ b o, H b = some o → b ≠ p → H' b = some o) → IsShrunk K C H' p (wd - Sound.zeros wd ns) (Sound.zeros wd ns) (Sound.shrunk wd ns) → Q .non H'
theorem sc_Shrunk_init : FnScope ["self", "width", "numbers", "number"] ["self", "width", "numbers"] (defScope s_Shrunk_init) := ⟨rfl, rfl, rfl, by decide +kernel, rfl, by decide +kernel, by decide +kernel⟩
theorem ok_Shrunk_init (T : Txt K mg A) : FnOk P w K mg base CX0 2 A.f_Shrunk_init A.d_Shrunk_init ["self", "width", "numbers"] (spShr K A.c_Shrunk) := by
  refine T.F_Shrunk_init.ok sc_Shrunk_init (fun vs H Q E h => ?_) (fun cdv Ar outer s H vs Q E hr h => ?_)
  · obtain ⟨p, dx, q, wd, ns, rfl, _⟩ := h
    rfl
  · obtain ⟨p, dx, q, wd, ns, rfl, hp, hq, ⟨hw1, hw2⟩, hf, hl, k⟩ := h
    refine ⟨_, pss_cons (ps_fld (pv 0) (pe_call (ok_shared_zeros T) hr rfl T.m_shared_zeros T.F_shared_zeros.kp T.b_shared_zeros .nil pass0 (pa_cons (pv 2) pa_nil)) rfl)
      (pss_cons (ps_fld (pv 0) (pe_op op_sub (pv 1) (pe_fld (pv 0) rfl)) rfl)
      (pss_one (ps_fld (pv 0) (pe_lc (own := [("number", 3)]) rfl sc_Shrunk_init.nd (pi_list (pv 2)) (blkOk_by (by kernel_rfl)) (fun _ _ _ _ _ => pg_name (i := 3) sc_Shrunk_init.nd rfl (Or.inl rfl)) (fun _ _ _ _ _ => pts_nil)
        (fun _ _ _ _ _ => pe_op op_shr (pv 3) (pfldK (K := K) rfl (pv 0) rfl))) rfl))), ?_⟩
    obtain ⟨hz, hzl⟩ := zeros_eq hw1 hf
    refine ⟨_, rfl, q, ns, rfl, hq, _, rfl, p, A.c_Shrunk, dx, _, rfl, hp, T.l_Shrunk, T.n_Shrunk_z, (by show 0 < 1000; decide), ?_⟩
    rw [hz, shf1]
    generalize hzz : Sound.zeros wd ns = z at *
    refine ⟨_, rfl, _, rfl, p, A.c_Shrunk, dx, _, _, rfl, upd_same, T.l_Shrunk, T.n_Shrunk_z, rfl, _, _, rfl, rfl, _, rfl, p, A.c_Shrunk, dx, _, rfl, upd_same, T.l_Shrunk, T.n_Shrunk_width, (by show 1 < 1000; decide), ?_⟩
    rw [shf2, upd_upd]
    have ew : (wd : Int) - (z : Int) = ((wd - z : Nat) : Int) := by omega
    have hq1 := sq_upd (o := .ins A.c_Shrunk dx [(("z" : Str), V.int (z : Nat)), ("width", V.int ((wd - z : Nat) : Int))]) hq hp
    dsimp only
    rw [ew]
    refine ⟨_, rfl, q, rfl, ⟨_, hq1⟩, fun D hD => ?_⟩
    refine lc_val (J := Itl K q) hD ns.length (by rw [sizeLine_eq]; omega) (fun i => .int (ns.getD i 0 / 2 ^ z)) (fun i Hh hi s1 => ⟨_, _, s1.seq hq1, int_get hi⟩) (fun Hh s1 => ⟨_, s1.seq hq1, by simp⟩) ?_ ?_
    · rintro i Hh x H' hi s1 ⟨rfl, hx⟩ C hC
      obtain ⟨rfl, _⟩ := map_int_get (hx _ (s1.seq hq1))
      refine ⟨rfl, _, rfl, _, rfl, p, A.c_Shrunk, dx, _, _, rfl, s1 _ _ upd_same, T.l_Shrunk, T.n_Shrunk_z, rfl, _, _, rfl, rfl, (by omega), ?_⟩
      exact hC _ (Same.refl _)
    · intro Hh s1 hx
      have hps := s1 _ _ (upd_same (H := H) (a := p) (o := .ins A.c_Shrunk dx [(("z" : Str), V.int (z : Nat)), ("width", V.int ((wd - z : Nat) : Int))]))
      have hpD : D ≠ p := ne_of hx hps (by intro e; cases e)
      refine ⟨_, rfl, p, A.c_Shrunk, dx, _, rfl, hps, T.l_Shrunk, T.n_Shrunk_numbers, (by show 2 < 1000; decide), ?_⟩
      rw [shf3]
      refine k _ (fun b o e hb => ?_) ⟨dx, D, upd_same, SqL.of ?_⟩
      · rw [upd_ne hb]
        exact s1 _ _ (by rw [upd_ne hb]; exact e)
      · rw [upd_ne hpD, hx]
        congr 2
        unfold Sound.shrunk
        rw [List.map_map, hzz]
        refine List.ext_getElem (by simp) fun i h1 h2 => ?_
        have hi : i < ns.length := by simpa using h2
        simp [List.getD_eq_getElem?_getD, List.getElem?_eq_getElem hi]
def pwf (kd sh g rw_ b : V) : List (Str × V) := [("kind", kd), ("shrunk", sh), ("guess", g), ("rests_way", rw_), ("bits", b)]
theorem pwf_put (kd sh g rw_ b : V) : putF "bits" b (putF "rests_way" rw_ (putF "guess" g (putF "shrunk" sh (putF "kind" kd [])))) = pwf kd sh g rw_ b := by
  have e1 : putF "kind" kd [] = [(("kind" : Str), kd)] := rfl
  rw [e1]
  have n1 : ¬ ("kind" : Str) = "shrunk" := by decide
  have n2 : ¬ ("kind" : Str) = "guess" := by decide
  have n3 : ¬ ("shrunk" : Str) = "guess" := by decide
  have n4 : ¬ ("kind" : Str) = "rests_way" := by decide
  have n5 : ¬ ("shrunk" : Str) = "rests_way" := by decide
  have n6 : ¬ ("guess" : Str) = "rests_way" := by decide
  have n7 : ¬ ("kind" : Str) = "bits" := by decide
  have n8 : ¬ ("shrunk" : Str) = "bits" := by decide
  have n9 : ¬ ("guess" : Str) = "bits" := by decide
  have n0 : ¬ ("rests_way" : Str) = "bits" := by decide
  simp only [putF, if_neg n1, if_neg n2, if_neg n3, if_neg n4, if_neg n5, if_neg n6, if_neg n7, if_neg n8, if_neg n9, if_neg n0]
  rfl
theorem pwf_bits (kd sh g rw_ b c : V) : putF "bits" c (pwf kd sh g rw_ b) = pwf kd sh g rw_ c := by
  have n7 : ¬ ("kind" : Str) = "bits" := by decide
  have n8 : ¬ ("shrunk" : Str) = "bits" := by decide
  have n9 : ¬ ("guess" : Str) = "bits" := by decide
  have n0 : ¬ ("rests_way" : Str) = "bits" := by decide
  simp only [pwf, putF, if_neg n7, if_neg n8, if_neg n9, if_neg n0]
  rfl
theorem pwf_rw (kd sh g rw_ b c : V) : putF "rests_way" c (pwf kd sh g rw_ b) = pwf kd sh g c b := by
  have n7 : ¬ ("kind" : Str) = "rests_way" := by decide
  have n8 : ¬ ("shrunk" : Str) = "rests_way" := by decide
  have n9 : ¬ ("guess" : Str) = "rests_way" := by decide
  simp only [pwf, putF, if_neg n7, if_neg n8, if_neg n9]
  rfl
theorem pwf_lb (kd sh g rw_ b : V) : (pwf kd sh g rw_ b).lookup ("bits" : Str) = some b := rfl
theorem pwf_lr (kd sh g rw_ b : V) : (pwf kd sh g rw_ b).lookup ("rests_way" : Str) = some rw_ := rfl
def spPW (K : PySem.W.Frag) (C Cs : Addr) : Sp := fun vs H Q _ => ∃ (p dx sx : Addr) (kd g : V) (wd z : Nat) (y : List Int), vs = [.ref p, kd, .ref sx, g] ∧ H p = some (.ins C dx []) ∧ IsShrunk K Cs H sx wd z y ∧ Q .non (upd H p (.ins C dx (pwf kd (.ref sx) g .non (.int ((1 + z + 4 : Nat) : Int)))))
theorem sc_PartWay_init : FnScope ["self", "kind", "shrunk", "guess"] ["self", "kind", "shrunk", "guess"] (defScope s_PartWay_init) := ⟨rfl, rfl, rfl, by decide +kernel, rfl, by decide +kernel, by decide +kernel⟩
theorem ok_PartWay_init (T : Txt K mg A) : FnOk P w K mg base CX0 1 A.f_PartWay_init A.d_PartWay_init ["self", "kind", "shrunk", "guess"] (spPW K A.c_PartWay A.c_Shrunk) := by
  refine T.F_PartWay_init.ok sc_PartWay_init (fun vs H Q E h => ?_) (fun cdv Ar outer s H vs Q E hr h => ?_)
  · obtain ⟨p, dx, sx, kd, g, wd, z, y, rfl, _⟩ := h
    rfl
  · obtain ⟨p, dx, sx, kd, g, wd, z, y, rfl, hp, ⟨ds, l, hs, _⟩, k⟩ := h
    refine ⟨_, pss_cons (ps_fld (pv 0) (pv 1) rfl) (pss_cons (ps_fld (pv 0) (pv 2) rfl) (pss_cons (ps_fld (pv 0) (pv 3) rfl) (pss_cons (ps_fld (pv 0) pe_non rfl) (pss_one (ps_fld (pv 0) (pe_op op_add (pe_op op_add pe_int (pe_fld (pv 2) rfl)) pe_int) rfl))))), ?_⟩
    have few : ∀ {f : Str} {v : V} {l : List (Str × V)} {m : Nat}, l.length ≤ m → (putF f v l).length ≤ m + 1 := fun {f v l m} h => Nat.le_trans (length_putF f v l) (by omega)
    have f0 : ([] : List (Str × V)).length ≤ 0 := Nat.le_refl _
    have f1 := few (f := "kind") (v := kd) f0
    have f2 := few (f := "shrunk") (v := .ref sx) f1
    have f3 := few (f := "guess") (v := g) f2
    have f4 := few (f := "rests_way") (v := .non) f3
    have hsp : sx ≠ p := ne_of hs hp (by intro e; injection e with _ _ e; cases e)
    refine ⟨_, rfl, _, rfl, p, A.c_PartWay, dx, _, rfl, hp, T.l_PartWay, T.n_PartWay_kind, (by show 0 < 1000; decide), ?_⟩
    refine ⟨_, rfl, _, rfl, p, A.c_PartWay, dx, _, rfl, upd_same, T.l_PartWay, T.n_PartWay_shrunk, by omega, ?_⟩
    rw [upd_upd]
    refine ⟨_, rfl, _, rfl, p, A.c_PartWay, dx, _, rfl, upd_same, T.l_PartWay, T.n_PartWay_guess, by omega, ?_⟩
    rw [upd_upd]
    refine ⟨_, rfl, p, A.c_PartWay, dx, _, rfl, upd_same, T.l_PartWay, T.n_PartWay_rests_way, by omega, ?_⟩
    rw [upd_upd]
    refine ⟨_, rfl, sx, A.c_Shrunk, ds, _, _, rfl, (by rw [upd_ne hsp]; exact hs), T.l_Shrunk, T.n_Shrunk_z, rfl, _, _, rfl, rfl, _, _, rfl, rfl, _, rfl, p, A.c_PartWay, dx, _, rfl, upd_same, T.l_PartWay, T.n_PartWay_bits, by omega, ?_⟩
    rw [pwf_put, upd_upd]
    have e : (1 : Int) + (z : Nat) + 4 = ((1 + z + 4 : Nat) : Int) := by omega
    dsimp only
    rw [e]
    exact k
def guessOf (k : Nat) (y : List Int) : Option (Nat × List Int) := if k ≤ 6 then (if k - 2 ≤ y.length then some (0, Sound.FIXED.getD (k - 2) []) else none) else if k - 6 < y.length then linGuess y (k - 6) else none
def ordOf (k : Nat) : Nat := if k ≤ 6 then k - 2 else k - 6
theorem kindN_guess {wd z k : Nat} {y : List Int} (h2 : 2 ≤ k) : kindN wd z y k = match guessOf k y with
    | none => none
    | some (h, a) => guessed wd z (ordOf k) a h y (if k ≤ 6 then 0 else 4 + (k - 6) * 12) := by
  unfold kindN guessOf ordOf
  rw [if_neg (by omega)]
  by_cases h6 : k ≤ 6
  · simp only [if_pos h6]
    by_cases hp : k - 2 ≤ y.length
    · simp only [if_pos hp]
    · simp only [if_neg hp]
  · simp only [if_neg h6]
    by_cases hp : k - 6 < y.length
    · simp only [if_pos hp]
      all_goals (cases linGuess y (k - 6) <;> rfl)
    · simp only [if_neg hp]
theorem guessOf_ok {k : Nat} {y : List Int} {h : Nat} {a : List Int} (h2 : 2 ≤ k) (h10 : k ≤ 10) (e : guessOf k y = some (h, a)) : a.length = ordOf k ∧ Bd 2048 a ∧ ordOf k ≤ y.length := by
  unfold guessOf at e
  unfold ordOf
  by_cases h6 : k ≤ 6
  · rw [if_pos h6] at e ⊢
    by_cases hp : k - 2 ≤ y.length
    · rw [if_pos hp] at e
      cases e
      obtain ⟨f1, f2⟩ := fixed_ok (p := k - 2) (by omega)
      exact ⟨f1, f2, hp⟩
    · rw [if_neg hp] at e; cases e
  · rw [if_neg h6] at e ⊢
    by_cases hp : k - 6 < y.length
    · rw [if_pos hp, linGuess_eq (by omega) (by omega) (by omega)] at e
      obtain ⟨f1, f2, _⟩ := factors_ok e (by omega) (by omega) (by omega)
      exact ⟨f1, f2, by omega⟩
    · rw [if_neg hp] at e; cases e
def spChosen (K : PySem.W.Frag) (C : Addr) : Sp := fun vs H Q _ => ∃ (k : Nat) (q : Addr) (y : List Int), vs = [.int k, .int (ordOf k : Nat), .ref q] ∧ SqL K H q (y.map V.int) ∧ (2 ≤ k ∧ k ≤ 10 ∧ y.length ≤ 1024) ∧ Bd 16777216 y ∧
  (guessOf k y = none → ∀ H', Same H H' → Q .non H') ∧ (∀ h a, guessOf k y = some (h, a) → ∀ x H', H x = none → Same H H' → IsGuess K C H' x a h → Q (.ref x) H')
theorem sc_chosen_guess : FnScope ["kind", "order", "numbers"] ["kind", "order", "numbers"] (defScope s_chosen_guess) := ⟨rfl, rfl, rfl, by decide +kernel, rfl, by decide +kernel, by decide +kernel⟩
theorem ok_chosen_guess (T : Txt K mg A) : FnOk P w K mg base CX0 4 A.f_chosen_guess A.d_chosen_guess ["kind", "order", "numbers"] (spChosen K A.c_Guess) := by
  refine T.F_chosen_guess.ok sc_chosen_guess (fun vs H Q E h => ?_) (fun cdv Ar outer s H vs Q E hr h => ?_)
  · obtain ⟨k, q, y, rfl, _⟩ := h
    rfl
  · obtain ⟨k, q, y, rfl, hq, ⟨h2, h10, hl⟩, hb, k0, k1⟩ := h
    refine ⟨_, pss_cons (ps_if (pt_cmpR op_lt (pv 0) (pe_gi rfl T.g_FIRST_LINEAR) (nomark _))
        (pss_one (ps_ret (pe_ifExp (pt_cmpR op_le (pv 1) (pe_callB call_len_seq (by rfl) T.z_len PySem.boot_len (pa_cons (pv 2) pa_nil)) (nomark _)) (pe_call (ok_fixed_guess T) hr rfl T.m_fixed_guess T.F_fixed_guess.kp T.b_fixed_guess .nil pass0 (pa_cons (pv 1) pa_nil)) pe_non))) pss_nil)
      (pss_one (ps_ret (pe_ifExp (pt_cmpR op_lt (pv 1) (pe_callB call_len_seq (by rfl) T.z_len PySem.boot_len (pa_cons (pv 2) pa_nil)) (nomark _)) (pe_call (ok_linear_guess T) hr rfl T.m_linear_guess T.F_linear_guess.kp T.b_linear_guess .nil pass0 (pa_cons (pv 1) (pa_cons (pv 2) pa_nil))) pe_non))), ?_⟩
    refine ⟨_, rfl, _, _, rfl, rfl, _, rfl, ?_⟩
    by_cases h6 : k ≤ 6
    · have e1 : ordOf k = k - 2 := by unfold ordOf; rw [if_pos h6]
      rw [decide_eq_true (show (k : Int) < 7 by omega)]
      refine iteT ?_
      refine ⟨_, rfl, _, rfl, q, _, rfl, .inl hq, _, _, rfl, rfl, _, rfl, ?_⟩
      rw [List.length_map]
      refine ite2 (fun hc => ?_) fun hc => ?_
      · have hc : ((ordOf k : Nat) : Int) ≤ (y.length : Nat) := of_decide_eq_true hc
        refine ⟨_, rfl, ordOf k, rfl, by omega, fun x H' hx s1 hg => ?_⟩
        refine k1 0 (Sound.FIXED.getD (k - 2) []) ?_ x H' hx s1 (by rw [← e1]; exact hg)
        unfold guessOf
        rw [if_pos h6, if_pos (by omega)]
      · have hc : ¬ ((ordOf k : Nat) : Int) ≤ (y.length : Nat) := fun z => hc (decide_eq_true z)
        refine k0 ?_ H (Same.refl _)
        unfold guessOf
        rw [if_pos h6, if_neg (by omega)]
    · have e1 : ordOf k = k - 6 := by unfold ordOf; rw [if_neg h6]
      rw [decide_eq_false (show ¬ (k : Int) < 7 by omega)]
      refine iteF ?_
      refine ⟨_, rfl, _, rfl, q, _, rfl, .inl hq, _, _, rfl, rfl, _, rfl, ?_⟩
      rw [List.length_map]
      refine ite2 (fun hc => ?_) fun hc => ?_
      · have hc : ((ordOf k : Nat) : Int) < (y.length : Nat) := of_decide_eq_true hc
        have eg : guessOf k y = linGuess y (ordOf k) := by unfold guessOf; rw [if_neg h6, if_pos (by omega), e1]
        refine ⟨_, rfl, _, rfl, q, y, ordOf k, rfl, hq, ⟨by omega, by omega, by omega, hl⟩, hb, fun hz H' s1 => k0 (by rw [eg]; exact hz) H' s1, fun h a hz x H' hx s1 hg => k1 h a (by rw [eg]; exact hz) x H' hx s1 hg⟩
      · have hc : ¬ ((ordOf k : Nat) : Int) < (y.length : Nat) := fun z => hc (decide_eq_true z)
        refine k0 ?_ H (Same.refl _)
        unfold guessOf
        rw [if_neg h6, if_neg (by omega)]
def But (x : Addr) (H H' : Hp) : Prop := ∀ b o, H b = some o → b ≠ x → H' b = some o
theorem But.refl (x : Addr) (H : Hp) : But x H H := fun _ _ h _ => h
theorem But.trans {x : Addr} {H H1 H2 : Hp} (a : But x H H1) (b : But x H1 H2) : But x H H2 := fun c o h hc => b c o (a c o h hc) hc
theorem But.of {x : Addr} {H H' : Hp} (s : Same H H') : But x H H' := fun b o h _ => s b o h
theorem But.upd {x : Addr} {H : Hp} {o : HO} : But x H (upd H x o) := fun b u h hb => by rw [upd_ne hb]; exact h
theorem But.sq {x C dx : Addr} {fs : List (Str × V)} {H H' : Hp} {q : Addr} {xs : List V} (b : But x H H') (hx : H x = some (.ins C dx fs)) (h : SqL K H q xs) : SqL K H' q xs := by
  rcases h with (h | ⟨ob, h⟩) | h
  · exact .inl (.inl (b _ _ h (ne_of h hx (by intro e; cases e))))
  · exact .inl (.inr ⟨ob, b _ _ h (ne_of h hx (by intro e; cases e))⟩)
  · exact .inr h
def bwf (n s : V) : List (Str × V) := [("written", n), ("size", s)]
theorem bwf_put (n s : V) : putF "size" s (putF "written" n []) = bwf n s := put1 _ _ _ _ (by decide)
theorem bwf_w (n s m : V) : putF "written" m (bwf n s) = bwf m s := by
  unfold bwf putF; rw [if_pos rfl]
theorem bwf_s (n s m : V) : putF "size" m (bwf n s) = bwf n m := by
  have n1 : ¬ ("written" : Str) = "size" := by decide
  simp only [bwf, putF, if_neg n1]; rfl
def IsWr (C : Addr) (H : Hp) (x : Addr) (b : Sound.Bits) : Prop := ∃ dx, H x = some (.ins C dx (bwf (.int (Sound.value b : Nat)) (.int (b.length : Nat))))
def spWr0 (C : Addr) : Sp := fun vs H Q _ => ∃ (p dx : Addr), vs = [.ref p] ∧ H p = some (.ins C dx []) ∧ Q .non (upd H p (.ins C dx (bwf (.int 0) (.int 0))))
theorem sc_BitWriter_init : FnScope ["self"] ["self"] (defScope s_BitWriter_init) := ⟨rfl, rfl, rfl, by decide +kernel, rfl, by decide +kernel, by decide +kernel⟩
theorem ok_BitWriter_init (T : Txt K mg A) : FnOk P w K mg base CX0 1 A.f_BitWriter_init A.d_BitWriter_init ["self"] (spWr0 A.c_BitWriter) := by
  refine T.F_BitWriter_init.ok sc_BitWriter_init (fun vs H Q E h => ?_) (fun cdv Ar outer s H vs Q E hr h => ?_)
  · obtain ⟨p, dx, rfl, _⟩ := h
    rfl
  · obtain ⟨p, dx, rfl, hp, k⟩ := h
    refine ⟨_, pss_cons (ps_fld (pv 0) pe_int rfl) (pss_one (ps_fld (pv 0) pe_int rfl)), ?_⟩
    refine ⟨_, rfl, p, A.c_BitWriter, dx, _, rfl, hp, T.l_BitWriter, T.n_BitWriter_written, (by show 0 < 1000; decide), ?_⟩
    refine ⟨_, rfl, p, A.c_BitWriter, dx, _, rfl, upd_same, T.l_BitWriter, T.n_BitWriter_size, (by show 1 < 1000; decide), ?_⟩
    rw [bwf_put, upd_upd]
    exact k
theorem bits_value (b : Sound.Bits) : Builtin.Int.intBits ((Sound.value b : Nat) : Int) ≤ b.length := by rw [bl_int]; exact bl_le (value_lt b)
def MANY : Nat := 67108864
def spU (C : Addr) : Sp := fun vs H Q _ => ∃ (x : Addr) (wd n : Nat) (b : Sound.Bits), vs = [.ref x, .int wd, .int n] ∧ IsWr C H x b ∧ n < 2 ^ wd ∧ b.length + wd ≤ MANY ∧ ∀ H', But x H H' → IsWr C H' x (b ++ Sound.u wd n) → Q .non H'
theorem sc_BitWriter_unsigned : FnScope ["self", "width", "number"] ["self", "width", "number"] (defScope s_BitWriter_unsigned) := ⟨rfl, rfl, rfl, by decide +kernel, rfl, by decide +kernel, by decide +kernel⟩
theorem ok_BitWriter_unsigned (T : Txt K mg A) : FnOk P w K mg base CX0 1 A.f_BitWriter_unsigned A.d_BitWriter_unsigned ["self", "width", "number"] (spU A.c_BitWriter) := by
  refine T.F_BitWriter_unsigned.ok sc_BitWriter_unsigned (fun vs H Q E h => ?_) (fun cdv Ar outer s H vs Q E hr h => ?_)
  · obtain ⟨x, wd, n, b, rfl, _⟩ := h
    rfl
  · obtain ⟨x, wd, n, b, rfl, ⟨dx, hx⟩, hn, hl, k⟩ := h
    refine ⟨_, pss_cons (ps_fld (pv 0) (pe_op op_or (pe_op op_shlB (pe_fld (pv 0) rfl) (pv 1)) (pv 2)) rfl) (pss_one (ps_fldaug (pv 0) (pv 1) in_add)), ?_⟩
    have hbv := bits_value b
    have e27 : (2 : Int) ^ 27 = 134217728 := by decide
    unfold MANY at hl
    refine ⟨_, rfl, x, A.c_BitWriter, dx, _, _, rfl, hx, T.l_BitWriter, T.n_BitWriter_written, rfl, _, rfl, _, _, rfl, rfl, ⟨by omega, by omega⟩, _, rfl, _, _, rfl, rfl, _, rfl, x, A.c_BitWriter, dx, _, rfl, hx, T.l_BitWriter, T.n_BitWriter_written, (by show 2 < 1000; decide), ?_⟩
    rw [bwf_w]
    refine ⟨_, rfl, x, A.c_BitWriter, dx, _, _, rfl, upd_same, T.l_BitWriter, T.n_BitWriter_size, rfl, _, rfl, _, _, rfl, rfl, dx, _, upd_same, (by show 2 < 1000; decide), ?_⟩
    rw [bwf_s, upd_upd]
    have e1 : Builtin.bitOr ((Sound.value b : Nat) * 2 ^ ((wd : Nat) : Int).toNat) ((n : Nat) : Int) = ((Sound.value (b ++ Sound.u wd n) : Nat) : Int) := by
      rw [Int.toNat_natCast, or_shift hn, value_append, value_u, u_len, Nat.mod_eq_of_lt hn]
    have e2 : ((b.length : Nat) : Int) + (wd : Nat) = (((b ++ Sound.u wd n).length : Nat) : Int) := by rw [List.length_append, u_len]; omega
    dsimp only
    rw [e1, e2]
    exact k _ But.upd ⟨dx, upd_same⟩
def spS (C : Addr) : Sp := fun vs H Q _ => ∃ (x : Addr) (wd : Nat) (n : Int) (b : Sound.Bits), vs = [.ref x, .int wd, .int n] ∧ IsWr C H x b ∧ b.length + wd ≤ MANY ∧ wd ≤ 1000 ∧ ∀ H', But x H H' → IsWr C H' x (b ++ Sound.sb wd n) → Q .non H'
theorem sc_BitWriter_signed : FnScope ["self", "width", "number"] ["self", "width", "number"] (defScope s_BitWriter_signed) := ⟨rfl, rfl, rfl, by decide +kernel, rfl, by decide +kernel, by decide +kernel⟩
theorem ok_BitWriter_signed (T : Txt K mg A) : FnOk P w K mg base CX0 2 A.f_BitWriter_signed A.d_BitWriter_signed ["self", "width", "number"] (spS A.c_BitWriter) := by
  refine T.F_BitWriter_signed.ok sc_BitWriter_signed (fun vs H Q E h => ?_) (fun cdv Ar outer s H vs Q E hr h => ?_)
  · obtain ⟨x, wd, n, b, rfl, _⟩ := h
    rfl
  · obtain ⟨x, wd, n, b, rfl, ⟨dx, hx⟩, hl, hw, k⟩ := h
    refine ⟨_, pss_one (ps_expr (pe_meth (pv 0) T.l_BitWriter T.e_BitWriter_unsigned (ok_BitWriter_unsigned T) hr T.b_BitWriter_unsigned .nil pass0 (pa_cons (pv 1) (pa_cons (pe_op op_and (pv 2) (pe_op op_sub (pe_op op_shl pe_int (pv 1)) pe_int)) pa_nil)))), ?_⟩
    have hp : (0 : Int) < 2 ^ wd := Int.pow_pos (by decide)
    have hm := Int.emod_nonneg n (show (2 : Int) ^ wd ≠ 0 by omega)
    have hlt := Int.emod_lt_of_pos n hp
    have e2 : ((2 : Int) ^ wd) = ((2 ^ wd : Nat) : Int) := by simp
    have en : Builtin.bitAnd n (1 * 2 ^ ((wd : Nat) : Int).toNat - 1) = (((n % 2 ^ wd).toNat : Nat) : Int) := by
      rw [Int.one_mul, Int.toNat_natCast, mask]; omega
    refine ⟨_, rfl, x, dx, _, rfl, hx, rfl, _, rfl, _, rfl, _, rfl, _, _, rfl, rfl, ⟨by omega, by omega, by decide⟩, _, _, rfl, rfl, _, _, rfl, rfl, ?_⟩
    dsimp only
    rw [en]
    exact ⟨x, wd, (n % 2 ^ wd).toNat, b, rfl, ⟨dx, hx⟩, by omega, hl, fun H' hb hw' => k H' hb hw'⟩
theorem u_one : ∀ q : Nat, Sound.u (q + 1) 1 = Sound.run q
  | 0 => rfl
  | q + 1 => by
    rw [u_succ, u_one q]
    have : (1 : Nat).testBit (q + 1) = false := by rw [Nat.testBit_succ]; simp
    rw [this]; rfl
def spR (C : Addr) : Sp := fun vs H Q _ => ∃ (x : Addr) (q : Nat) (b : Sound.Bits), vs = [.ref x, .int q] ∧ IsWr C H x b ∧ b.length + (q + 1) ≤ MANY ∧ ∀ H', But x H H' → IsWr C H' x (b ++ Sound.run q) → Q .non H'
theorem sc_BitWriter_run : FnScope ["self", "zeros"] ["self", "zeros"] (defScope s_BitWriter_run) := ⟨rfl, rfl, rfl, by decide +kernel, rfl, by decide +kernel, by decide +kernel⟩
theorem ok_BitWriter_run (T : Txt K mg A) : FnOk P w K mg base CX0 2 A.f_BitWriter_run A.d_BitWriter_run ["self", "zeros"] (spR A.c_BitWriter) := by
  refine T.F_BitWriter_run.ok sc_BitWriter_run (fun vs H Q E h => ?_) (fun cdv Ar outer s H vs Q E hr h => ?_)
  · obtain ⟨x, q, b, rfl, _⟩ := h
    rfl
  · obtain ⟨x, q, b, rfl, ⟨dx, hx⟩, hl, k⟩ := h
    refine ⟨_, pss_one (ps_expr (pe_meth (pv 0) T.l_BitWriter T.e_BitWriter_unsigned (ok_BitWriter_unsigned T) hr T.b_BitWriter_unsigned .nil pass0 (pa_cons (pe_op op_add (pv 1) pe_int) (pa_cons pe_int pa_nil)))), ?_⟩
    refine ⟨_, rfl, x, dx, _, rfl, hx, rfl, _, rfl, _, _, rfl, rfl, ?_⟩
    have e : (q : Int) + 1 = ((q + 1 : Nat) : Int) := by omega
    dsimp only
    rw [e]
    exact ⟨x, q + 1, 1, b, rfl, ⟨dx, hx⟩, Nat.one_lt_two_pow (by omega), hl, fun H' hb hw' => k H' hb (by rw [← u_one]; exact hw')⟩
theorem rng_down8 {nb : Nat} (h : nb ≤ 100000000) : RgC (8 * (nb : Int) - 8) (-1) (-8) nb := by
  refine ⟨by decide, by decide, ?_, ?_⟩
  · unfold Builtin.Range.small Builtin.Range.rangeSize
    simp only [Builtin.Range.rangeFitsLong, Bool.and_eq_true, Bool.or_eq_true, decide_eq_true_eq, beq_iff_eq, show ¬ ((-8 : Int) > 0) by decide, if_false, show -(-8 : Int) = 8 by decide]
    split <;> omega
  · unfold Builtin.Range.rangeSize
    rw [if_neg (by decide), show -(-8 : Int) = 8 by decide]
    split <;> omega
theorem pad_eq (n : Nat) : (-(n : Int)) % 8 = (Sound.padBits n : Nat) := by unfold Sound.padBits; omega
theorem pad_len (n : Nat) : (n + Sound.padBits n) % 8 = 0 ∧ Sound.padBits n < 8 := by unfold Sound.padBits; omega
def bytesP (b : Sound.Bits) : Sound.Bytes := Sound.bytesOf (b.length + 1) (b ++ List.replicate (Sound.padBits b.length) false)
def spBytes (C : Addr) : Sp := fun vs H Q _ => ∃ (x : Addr) (b : Sound.Bits), vs = [.ref x] ∧ IsWr C H x b ∧ b.length ≤ 1000000 ∧ ∀ D H', H D = none → Same H H' → H' D = some (.lst (vN ((bytesP b).map UInt8.toNat))) → Q (.ref D) H'
theorem sc_BitWriter_whole_bytes : FnScope ["self", "padding", "padded", "place"] ["self"] (defScope s_BitWriter_whole_bytes) := ⟨rfl, rfl, rfl, by decide +kernel, rfl, by decide +kernel, by decide +kernel⟩
theorem ok_BitWriter_whole_bytes (T : Txt K mg A) : FnOk P w K mg base CX0 1 A.f_BitWriter_whole_bytes A.d_BitWriter_whole_bytes ["self"] (spBytes A.c_BitWriter) := by
  refine T.F_BitWriter_whole_bytes.ok sc_BitWriter_whole_bytes (fun vs H Q E h => ?_) (fun cdv Ar outer s H vs Q E hr h => ?_)
  · obtain ⟨x, b, rfl, _⟩ := h
    rfl
  · obtain ⟨x, b, rfl, ⟨dx, hx⟩, hl, k⟩ := h
    refine ⟨_, pss_cons (ps_set (i := 1) sc_BitWriter_whole_bytes.nd rfl (Or.inl rfl) (pe_op op_mod (pe_un un_neg (pe_fld (pv 0) rfl)) pe_int))
      (pss_cons (ps_set (i := 2) sc_BitWriter_whole_bytes.nd rfl (Or.inr rfl) (pe_op op_shlB (pe_fld (pv 0) rfl) (pv 1)))
      (pss_one (ps_ret (pe_lc (own := [("place", 3)]) rfl sc_BitWriter_whole_bytes.nd (pi_range3 rfl T.z_range (pa_cons (pe_op op_sub (pe_op op_add (pe_fld (pv 0) rfl) (pv 1)) pe_int) (pa_cons (pe_un un_neg pe_int) (pa_cons (pe_un un_neg pe_int) pa_nil))))
        (blkOk_by (by kernel_rfl)) (fun _ _ _ _ _ => pg_name (i := 3) sc_BitWriter_whole_bytes.nd rfl (Or.inl rfl)) (fun _ _ _ _ _ => pts_nil) (fun _ _ _ _ _ => pe_op op_and (pe_op op_shr (pv 2) (pv 3)) pe_int))))), ?_⟩
    have hbv := bits_value b
    have e27 : (2 : Int) ^ 27 = 134217728 := by decide
    obtain ⟨hp8, hp7⟩ := pad_len b.length
    refine ⟨_, rfl, x, A.c_BitWriter, dx, _, _, rfl, hx, T.l_BitWriter, T.n_BitWriter_size, rfl, _, rfl, _, _, rfl, rfl, (by show (0 : Int) < 8; decide), ?_⟩
    dsimp only
    rw [pad_eq]
    refine ⟨_, rfl, x, A.c_BitWriter, dx, _, _, rfl, hx, T.l_BitWriter, T.n_BitWriter_written, rfl, _, rfl, _, _, rfl, rfl, ⟨by omega, by omega⟩, ?_⟩
    have eL : ((Sound.value b : Nat) : Int) * 2 ^ ((Sound.padBits b.length : Nat) : Int).toNat = ((Sound.value (b ++ List.replicate (Sound.padBits b.length) false) : Nat) : Int) := by
      rw [value_append, value_false, List.length_replicate, Int.toNat_natCast]; simp
    dsimp only
    rw [eL]
    have hLl : (b ++ List.replicate (Sound.padBits b.length) false).length = b.length + Sound.padBits b.length := by rw [List.length_append, List.length_replicate]
    generalize hnb : (b.length + Sound.padBits b.length) / 8 = nb
    have h8 : b.length + Sound.padBits b.length = 8 * nb := by omega
    have hbv2 := bytes_vals nb b.length (b ++ List.replicate (Sound.padBits b.length) false) (by omega) (by omega)
    unfold bytesP at k
    rw [hbv2] at k
    generalize Sound.value (b ++ List.replicate (Sound.padBits b.length) false) = vl at *
    have eI : ((b.length : Nat) : Int) + ((Sound.padBits b.length : Nat) : Int) - 8 = 8 * (nb : Int) - 8 := by omega
    refine ⟨_, rfl, x, A.c_BitWriter, dx, _, _, rfl, hx, T.l_BitWriter, T.n_BitWriter_size, rfl, _, rfl, _, _, rfl, rfl, _, _, rfl, rfl, _, rfl, _, rfl, 8 * (nb : Int) - 8, -1, -8, nb, (by rw [← eI]), rng_down8 (by omega), fun D hD => ?_⟩
    refine lc_val (J := Itc (8 * (nb : Int) - 8) (-8) nb) hD nb (by rw [sizeLine_eq]; omega) (fun i => .int ((vl / 2 ^ (8 * (nb - 1 - i)) % 256 : Nat) : Int)) (fun i Hh hi s1 => hi) (fun Hh s1 => Nat.le_refl _) ?_ ?_
    · rintro i Hh z H' hi s1 ⟨rfl, rfl⟩ C hC
      have e1 : 8 * (nb : Int) - 8 + (i : Nat) * (-8) = ((8 * (nb - 1 - i) : Nat) : Int) := by omega
      rw [e1]
      refine ⟨rfl, _, rfl, _, rfl, _, _, rfl, rfl, (by omega), _, _, rfl, rfl, ?_⟩
      have e2 : ((vl : Nat) : Int) / 2 ^ ((8 * (nb - 1 - i) : Nat) : Int).toNat = ((vl / 2 ^ (8 * (nb - 1 - i)) : Nat) : Int) := by rw [Int.toNat_natCast]; simp
      dsimp only
      rw [e2, and255]
      exact hC _ (Same.refl _)
    · intro Hh s1 hx'
      refine k D Hh hD s1 (hx'.trans ?_)
      unfold vN
      rw [List.map_map]
      rfl
def spCrc (K : PySem.W.Frag) : Sp := fun vs H Q _ => ∃ (q : Addr) (l : List Nat), vs = [.ref q] ∧ SqL K H q (vN l) ∧ (∀ x ∈ l, x < 256) ∧ Q (.int (crcP l : Nat)) H
theorem sc_crc16 : FnScope ["data", "check", "byte", "step"] ["data"] (defScope s_crc16) := ⟨rfl, rfl, rfl, by decide +kernel, rfl, by decide +kernel, by decide +kernel⟩
def itP : Nat → Nat → Nat
  | 0, c => c
  | j + 1, c => crcStepP (itP j c)
theorem crcStepP_lt {p : Nat} (h : p < 65536) : crcStepP p < 65536 := by
  unfold crcStepP
  split
  · rename_i hc
    rw [show (69665 : Nat) = 65536 ^^^ 4129 by decide, ← Nat.xor_assoc, flip16 (by omega) (by omega)]
    exact xor_lt16 (Nat.mod_lt _ (by decide)) (by decide)
  · omega
theorem itP_lt {c : Nat} (h : c < 65536) : ∀ j, itP j c < 65536
  | 0 => h
  | j + 1 => crcStepP_lt (itP_lt h j)
theorem itP_byte (c b : Nat) : itP 8 (c ^^^ (b * 256)) = crcByteP c b := by
  unfold crcByteP
  rw [show List.range 8 = [0, 1, 2, 3, 4, 5, 6, 7] from rfl]
  simp only [List.foldl_cons, List.foldl_nil, itP]
theorem ok_crc16 (T : Txt K mg A) : FnOk P w K mg base CX0 1 A.f_crc16 A.d_crc16 ["data"] (spCrc K) := by
  refine T.F_crc16.ok sc_crc16 (fun vs H Q E h => ?_) (fun cdv Ar outer s H vs Q E hr h => ?_)
  · obtain ⟨q, l, rfl, _⟩ := h
    rfl
  · obtain ⟨q, l, rfl, hq, hb, k⟩ := h
    refine ⟨_, pss_cons (ps_set (i := 1) sc_crc16.nd rfl (Or.inl rfl) pe_int)
      (pss_cons (ps_for PassesOwn.never rfl (pi_list (pv 0)) (pg_name (i := 2) sc_crc16.nd rfl (Or.inl rfl))
        (pss_cons (ps_aug (i := 1) sc_crc16.nd rfl (Or.inl rfl) (pe_op op_shl (pv 2) pe_int) iop_xor)
        (pss_one (ps_for PassesOwn.never rfl (pi_range1 rfl T.z_range (pa_cons pe_int pa_nil)) (pg_name (i := 3) sc_crc16.nd rfl (Or.inl rfl))
          (pss_cons (ps_aug (i := 1) sc_crc16.nd rfl (Or.inl rfl) pe_int iop_shl)
          (pss_one (ps_if (pt_cmpR op_gt (pv 1) pe_int (nomark _)) (pss_one (ps_aug (i := 1) sc_crc16.nd rfl (Or.inl rfl) pe_int iop_xor)) pss_nil)))))))
      (pss_one (ps_ret (pv 1)))), ?_⟩
    refine ⟨_, rfl, q, rfl, ⟨_, hq⟩, ?_⟩
    refine for_list (K := K) (a := q) (xs := vN l) (fun i σ H' => H' = H ∧ (l.take i).foldl crcByteP 65535 < 65536 ∧ ∃ v2 v3 : Option V, σ = [some (.ref q), some (.int ((l.take i).foldl crcByteP 65535 : Nat)), v2, v3]) ⟨rfl, (by rw [List.take_zero, List.foldl_nil]; decide), none, none, (by rw [List.take_zero, List.foldl_nil]; rfl)⟩ (fun i σ H' _ ⟨e, _⟩ => by rw [e]; exact hq) ?_ ?_
    · rintro i x σ H' hi ⟨rfl, hlt, v2, v3, rfl⟩
      obtain ⟨rfl, hil⟩ := vN_get' hi
      generalize hc : (l.take i).foldl crcByteP 65535 = c at *
      have hbl : l.getD i 0 < 256 := hb _ (by rw [List.getD_eq_getElem?_getD, List.getElem?_eq_getElem hil]; exact List.getElem_mem hil)
      have enext : (l.take (i + 1)).foldl crcByteP 65535 = crcByteP c (l.getD i 0) := by
        rw [List.take_succ, List.getElem?_eq_getElem hil, List.foldl_append, hc, List.getD_eq_getElem?_getD, List.getElem?_eq_getElem hil]
        simp only [Option.toList_some, List.foldl_cons, List.foldl_nil, Option.getD_some]
      have hnlt : crcByteP c (l.getD i 0) < 65536 := (byteP hlt hbl).2
      refine ⟨_, rfl, _, rfl, _, _, rfl, rfl, ⟨by decide, by decide, by rw [Int.natAbs_natCast]; omega⟩, _, _, rfl, rfl, ?_⟩
      have ex : Builtin.bitXor ((c : Nat) : Int) (((l.getD i 0 : Nat) : Int) * 2 ^ (8 : Int).toNat) = ((c ^^^ (l.getD i 0 * 256) : Nat) : Int) := by
        rw [← bitXor_nat]
        congr 1
      dsimp only
      rw [ex]
      have hstart : c ^^^ (l.getD i 0 * 256) < 65536 := xor_lt16 hlt (by omega)
      refine ⟨_, rfl, by decide, by decide, ?_⟩
      refine for_range (lo := 0) (n := 8) (fun j σ Hj => Hj = H' ∧ ∃ v3 : Option V, σ = [some (.ref q), some (.int (itP j (c ^^^ (l.getD i 0 * 256)) : Nat)), some (.int (l.getD i 0 : Nat)), v3]) ⟨rfl, v3, rfl⟩ ?_ ?_
      · rintro j σ H' hj ⟨rfl, v3, rfl⟩
        have hjl := itP_lt hstart j
        generalize hp : itP j (c ^^^ (l.getD i 0 * 256)) = p at *
        have hnx : itP (j + 1) (c ^^^ (l.getD i 0 * 256)) = crcStepP p := by rw [itP, hp]
        rw [Int.zero_add]
        refine ⟨_, rfl, _, _, rfl, rfl, ⟨by decide, by decide, by rw [Int.natAbs_natCast]; omega⟩, ?_⟩
        have e2 : ((p : Nat) : Int) * 2 ^ (1 : Int).toNat = ((2 * p : Nat) : Int) := by
          rw [show (2 : Int) ^ (1 : Int).toNat = 2 by decide]; omega
        dsimp only
        rw [e2]
        refine ⟨_, rfl, _, _, rfl, rfl, _, rfl, ?_⟩
        refine ite2 (fun hc2 => ?_) fun hc2 => ?_
        · have hc2 : (65535 : Int) < ((2 * p : Nat) : Int) := of_decide_eq_true hc2
          refine ⟨_, rfl, _, _, rfl, rfl, rfl, some (.int (j : Nat)), ?_⟩
          rw [hnx]
          unfold crcStepP
          rw [if_pos (by omega)]
          have := bitXor_nat (2 * p) 69665
          show [some (V.ref q), some (V.int (Builtin.bitXor ((2 * p : Nat) : Int) 69665)), some (V.int (l.getD i 0 : Nat)), some (V.int (j : Nat))] = _
          rw [show (69665 : Int) = ((69665 : Nat) : Int) from rfl, this]
        · have hc2 : ¬ (65535 : Int) < ((2 * p : Nat) : Int) := fun z => hc2 (decide_eq_true z)
          refine ⟨rfl, some (.int (j : Nat)), ?_⟩
          rw [hnx]
          unfold crcStepP
          rw [if_neg (by omega)]
          rfl
      · rintro σ H' ⟨rfl, v3, rfl⟩
        refine ⟨rfl, ?_, some (.int (l.getD i 0 : Nat)), v3, ?_⟩
        · rw [enext]; exact hnlt
        · rw [enext, itP_byte]
    · rintro σ H' ⟨rfl, _, v2, v3, rfl⟩
      rw [vN_len, List.take_length]
      exact ⟨_, rfl, k⟩
def restOne (g v : Nat) (e : Int) : Sound.Bits := if g = 31 then Sound.sb v e else Sound.run (Sound.fold e / 2 ^ g) ++ Sound.u g (Sound.fold e % 2 ^ g)
def gBits (g : GW) (es : List Int) : Sound.Bits := Sound.u 5 g.g ++ ((if g.g = 31 then Sound.u 6 g.v else []) ++ es.flatMap (restOne g.g g.v))
theorem gBits_eq (g : GW) (es : List Int) : gBits g es = Sound.groupBits es ⟨g.g, if g.g = 31 then g.v else 0⟩ := by
  unfold gBits Sound.groupBits
  congr 1
  by_cases h : g.g = 31
  · rw [if_pos h, if_pos h]
    simp only [if_pos h]
    congr 2
    funext e
    unfold restOne
    rw [if_pos h]
  · rw [if_neg h, if_neg h, List.nil_append]
    congr 1
    funext e
    unfold restOne
    rw [if_neg h]
theorem IsWr.ne {C Cg : Addr} {H : Hp} {x gx dx : Addr} {b : Sound.Bits} {fs : List (Str × V)} (h : IsWr C H x b) (hg : H gx = some (.ins Cg dx fs)) (hf : fs.lookup ("written" : Str) = none) : gx ≠ x := by
  obtain ⟨d, h⟩ := h
  refine ne_of hg h fun e => ?_
  injection e with _ _ e
  rw [e] at hf
  cases hf
theorem IsGW.but {C Cg : Addr} {H H' : Hp} {x gx : Addr} {b : Sound.Bits} {g : GW} (hw : IsWr C H x b) (hb : But x H H') (hg : IsGW Cg H gx g) : IsGW Cg H' gx g := by
  obtain ⟨dx, h⟩ := hg
  exact ⟨dx, hb _ _ h (hw.ne h rfl)⟩
def spWRest (C Cg : Addr) : Sp := fun vs H Q _ => ∃ (x gx : Addr) (g : GW) (e : Int) (b : Sound.Bits), vs = [.ref x, .ref gx, .int e] ∧ IsWr C H x b ∧ IsGW Cg H gx g ∧ g.g ≤ 31 ∧ g.v ≤ 1000 ∧ b.length + (restOne g.g g.v e).length ≤ MANY ∧ Sound.fold e < 2 ^ 40 ∧
  ∀ H', But x H H' → IsWr C H' x (b ++ restOne g.g g.v e) → Q .non H'
theorem sc_write_rest : FnScope ["writer", "group", "rest", "folded", "run"] ["writer", "group", "rest"] (defScope s_write_rest) := ⟨rfl, rfl, rfl, by decide +kernel, rfl, by decide +kernel, by decide +kernel⟩
theorem ok_write_rest (T : Txt K mg A) : FnOk P w K mg base CX0 3 A.f_write_rest A.d_write_rest ["writer", "group", "rest"] (spWRest A.c_BitWriter A.c_GroupWay) := by
  refine T.F_write_rest.ok sc_write_rest (fun vs H Q E h => ?_) (fun cdv Ar outer s H vs Q E hr h => ?_)
  · obtain ⟨x, gx, g, e, b, rfl, _⟩ := h
    rfl
  · obtain ⟨x, gx, g, e, b, rfl, hw, hg, hg31, hv, hl, hf, k⟩ := h
    have hr1 : Room 1 _ := hr.mono (by decide)
    refine ⟨_, pss_cons (ps_if (pt_cmpR op_eq (pe_fld (pv 1) rfl) (pe_gi rfl T.g_PLAIN) (nomark _))
        (pss_cons (ps_expr (pe_meth (pv 0) T.l_BitWriter T.e_BitWriter_signed (ok_BitWriter_signed T) hr T.b_BitWriter_signed .nil pass0 (pa_cons (pe_fld (pv 1) rfl) (pa_cons (pv 2) pa_nil)))) (pss_one ps_retN)) pss_nil)
      (pss_cons (ps_set (i := 3) sc_write_rest.nd rfl (Or.inl rfl) (pe_call (ok_folded_rest T) hr1 rfl T.m_folded_rest T.F_folded_rest.kp T.b_folded_rest .nil pass0 (pa_cons (pv 2) pa_nil)))
      (pss_cons (ps_set (i := 4) sc_write_rest.nd rfl (Or.inl rfl) (pe_op op_shr (pv 3) (pe_fld (pv 1) rfl)))
      (pss_cons (ps_expr (pe_meth (pv 0) T.l_BitWriter T.e_BitWriter_run (ok_BitWriter_run T) hr T.b_BitWriter_run .nil pass0 (pa_cons (pv 4) pa_nil)))
      (pss_one (ps_expr (pe_meth (pv 0) T.l_BitWriter T.e_BitWriter_unsigned (ok_BitWriter_unsigned T) hr1 T.b_BitWriter_unsigned .nil pass0 (pa_cons (pe_fld (pv 1) rfl) (pa_cons (pe_op op_sub (pv 3) (pe_op op_shl (pv 4) (pe_fld (pv 1) rfl))) pa_nil)))))))), ?_⟩
    obtain ⟨dx, hx⟩ := id hw
    obtain ⟨dg, hgx⟩ := id hg
    refine ⟨_, rfl, gx, A.c_GroupWay, dg, _, _, rfl, hgx, T.l_GroupWay, T.n_GroupWay_g, rfl, rfl, _, rfl, ?_⟩
    by_cases h31 : g.g = 31
    · rw [decide_eq_true (show V.int (g.g : Nat) = V.int 31 by rw [h31]; rfl)]
      refine iteT ?_
      unfold restOne at k hl
      rw [if_pos h31, sb_len] at hl
      rw [if_pos h31] at k
      refine ⟨_, rfl, x, dx, _, rfl, hx, rfl, _, rfl, gx, A.c_GroupWay, dg, _, _, rfl, hgx, T.l_GroupWay, T.n_GroupWay_v, rfl, _, rfl, x, g.v, e, b, rfl, hw, hl, hv, fun H' hb hw' => k H' hb hw'⟩
    · rw [decide_eq_false (show ¬ V.int (g.g : Nat) = V.int 31 from fun z => h31 (by have := V.int.inj z; omega))]
      refine iteF ?_
      unfold restOne at k hl
      rw [if_neg h31, List.length_append, run_len, u_len] at hl
      rw [if_neg h31] at k
      refine ⟨_, rfl, e, rfl, ?_⟩
      have ed : ((Sound.fold e : Nat) : Int) / 2 ^ ((g.g : Nat) : Int).toNat = ((Sound.fold e / 2 ^ g.g : Nat) : Int) := by rw [Int.toNat_natCast]; simp
      refine ⟨_, rfl, _, rfl, gx, A.c_GroupWay, dg, _, _, rfl, hgx, T.l_GroupWay, T.n_GroupWay_g, rfl, _, _, rfl, rfl, (by omega), ?_⟩
      dsimp only
      rw [ed]
      refine ⟨_, rfl, x, dx, _, rfl, hx, rfl, _, rfl, x, Sound.fold e / 2 ^ g.g, b, rfl, hw, by omega, fun H1 hb1 hw1 => ?_⟩
      obtain ⟨dx1, hx1⟩ := id hw1
      obtain ⟨dg1, hgx1⟩ := hg.but hw hb1
      have hq : Sound.fold e / 2 ^ g.g < 2 ^ 64 := Nat.lt_of_le_of_lt (Nat.div_le_self _ _) (Nat.lt_trans hf (by decide))
      refine ⟨_, rfl, x, dx1, _, rfl, hx1, rfl, _, rfl, gx, A.c_GroupWay, dg1, _, _, rfl, hgx1, T.l_GroupWay, T.n_GroupWay_g, rfl, _, rfl, _, rfl, _, rfl, gx, A.c_GroupWay, dg1, _, _, rfl, hgx1, T.l_GroupWay, T.n_GroupWay_g, rfl, _, _, rfl, rfl, ⟨by omega, by omega, by rw [Int.natAbs_natCast]; exact hq⟩, _, _, rfl, rfl, ?_⟩
      have em : ((Sound.fold e : Nat) : Int) - ((Sound.fold e / 2 ^ g.g : Nat) : Int) * 2 ^ ((g.g : Nat) : Int).toNat = ((Sound.fold e % 2 ^ g.g : Nat) : Int) := by
        rw [Int.toNat_natCast, show ((2 : Int) ^ g.g) = ((2 ^ g.g : Nat) : Int) by simp, ← Int.natCast_mul]
        have := Nat.div_add_mod (Sound.fold e) (2 ^ g.g)
        rw [Nat.mul_comm] at this
        omega
      dsimp only
      rw [em]
      refine ⟨x, g.g, Sound.fold e % 2 ^ g.g, _, rfl, hw1, Nat.mod_lt _ (Nat.two_pow_pos _), by rw [List.length_append, run_len]; omega, fun H2 hb2 hw2 => k H2 (hb1.trans hb2) ?_⟩
      rw [← List.append_assoc]
      exact hw2
def spWPlain (K : PySem.W.Frag) (C : Addr) : Sp := fun vs H Q _ => ∃ (x q : Addr) (wd : Nat) (ns : List Int) (b : Sound.Bits), vs = [.ref x, .int wd, .ref q] ∧ IsWr C H x b ∧ SqL K H q (ns.map V.int) ∧ wd ≤ 1000 ∧ b.length + ns.length * wd ≤ MANY ∧
  ∀ H', But x H H' → IsWr C H' x (b ++ Sound.numbers wd ns) → Q .non H'
theorem sc_write_plainly : FnScope ["writer", "width", "numbers", "number"] ["writer", "width", "numbers"] (defScope s_write_plainly) := ⟨rfl, rfl, rfl, by decide +kernel, rfl, by decide +kernel, by decide +kernel⟩
theorem ok_write_plainly (T : Txt K mg A) : FnOk P w K mg base CX0 3 A.f_write_plainly A.d_write_plainly ["writer", "width", "numbers"] (spWPlain K A.c_BitWriter) := by
  refine T.F_write_plainly.ok sc_write_plainly (fun vs H Q E h => ?_) (fun cdv Ar outer s H vs Q E hr h => ?_)
  · obtain ⟨x, q, wd, ns, b, rfl, _⟩ := h
    rfl
  · obtain ⟨x, q, wd, ns, b, rfl, hw, hq, hwd, hl, k⟩ := h
    refine ⟨_, pss_one (ps_for PassesOwn.never rfl (pi_list (pv 2)) (pg_name (i := 3) sc_write_plainly.nd rfl (Or.inl rfl))
      (pss_one (ps_expr (pe_meth (pv 0) T.l_BitWriter T.e_BitWriter_signed (ok_BitWriter_signed T) hr T.b_BitWriter_signed .nil pass0 (pa_cons (pv 1) (pa_cons (pv 3) pa_nil)))))), ?_⟩
    obtain ⟨dx, hx⟩ := id hw
    refine ⟨_, rfl, q, rfl, ⟨_, hq⟩, ?_⟩
    refine for_list (K := K) (a := q) (xs := ns.map V.int) (fun i σ H' => ∃ v3 : Option V, σ = [some (.ref x), some (.int wd), some (.ref q), v3] ∧ But x H H' ∧ IsWr A.c_BitWriter H' x (b ++ Sound.numbers wd (ns.take i)))
      ⟨none, rfl, But.refl _ _, by rw [List.take_zero]; simpa [Sound.numbers] using hw⟩ (fun i σ H' _ ⟨_, _, hb, _⟩ => hb.sq hx hq) ?_ ?_
    · rintro i y σ H' hi ⟨v3, rfl, hb, hwi⟩
      obtain ⟨rfl, hil⟩ := map_int_get hi
      obtain ⟨d1, h1⟩ := id hwi
      have e : Sound.numbers wd (ns.take (i + 1)) = Sound.numbers wd (ns.take i) ++ Sound.sb wd (ns.getD i 0) := by
        unfold Sound.numbers
        rw [List.take_succ, List.getElem?_eq_getElem hil, List.flatMap_append, List.getD_eq_getElem?_getD, List.getElem?_eq_getElem hil]
        simp
      have hlen : (b ++ Sound.numbers wd (ns.take i)).length + wd ≤ MANY := by
        rw [List.length_append, numbers_len, List.length_take, Nat.min_eq_left (by omega)]
        have : (i + 1) * wd ≤ ns.length * wd := Nat.mul_le_mul_right wd hil
        rw [Nat.add_mul, Nat.one_mul] at this
        omega
      refine ⟨_, rfl, x, d1, _, rfl, h1, rfl, _, rfl, _, rfl, x, wd, _, _, rfl, hwi, hlen, hwd, fun H2 hb2 hw2 => ⟨_, rfl, hb.trans hb2, ?_⟩⟩
      rw [e, ← List.append_assoc]
      exact hw2
    · rintro σ H' ⟨v3, rfl, hb, hwi⟩
      rw [List.length_map, List.take_length] at hwi
      exact k H' hb hwi
def spWZeros (C : Addr) : Sp := fun vs H Q _ => ∃ (x : Addr) (z : Nat) (b : Sound.Bits), vs = [.ref x, .int z] ∧ IsWr C H x b ∧ b.length + (1 + z) ≤ MANY ∧ ∀ H', But x H H' → IsWr C H' x (b ++ Sound.flag z) → Q .non H'
theorem sc_write_zeros : FnScope ["writer", "z"] ["writer", "z"] (defScope s_write_zeros) := ⟨rfl, rfl, rfl, by decide +kernel, rfl, by decide +kernel, by decide +kernel⟩
theorem ok_write_zeros (T : Txt K mg A) : FnOk P w K mg base CX0 3 A.f_write_zeros A.d_write_zeros ["writer", "z"] (spWZeros A.c_BitWriter) := by
  refine T.F_write_zeros.ok sc_write_zeros (fun vs H Q E h => ?_) (fun cdv Ar outer s H vs Q E hr h => ?_)
  · obtain ⟨x, z, b, rfl, _⟩ := h
    rfl
  · obtain ⟨x, z, b, rfl, hw, hl, k⟩ := h
    have hr1 : Room 1 _ := hr.mono (by decide)
    refine ⟨_, pss_one (ps_if (pt_cmpR op_eq (pv 1) pe_int (nomark _)) (pss_one (ps_expr (pe_meth (pv 0) T.l_BitWriter T.e_BitWriter_unsigned (ok_BitWriter_unsigned T) hr1 T.b_BitWriter_unsigned .nil pass0 (pa_cons pe_int (pa_cons pe_int pa_nil)))))
      (pss_cons (ps_expr (pe_meth (pv 0) T.l_BitWriter T.e_BitWriter_unsigned (ok_BitWriter_unsigned T) hr1 T.b_BitWriter_unsigned .nil pass0 (pa_cons pe_int (pa_cons pe_int pa_nil))))
      (pss_one (ps_expr (pe_meth (pv 0) T.l_BitWriter T.e_BitWriter_run (ok_BitWriter_run T) hr T.b_BitWriter_run .nil pass0 (pa_cons (pe_op op_sub (pv 1) pe_int) pa_nil)))))), ?_⟩
    obtain ⟨dx, hx⟩ := id hw
    refine ⟨_, rfl, rfl, _, rfl, ?_⟩
    by_cases hz : z = 0
    · subst hz
      refine iteT ?_
      exact ⟨_, rfl, x, dx, _, rfl, hx, rfl, x, 1, 0, b, rfl, hw, by decide, by omega, fun H' hb hw' => k H' hb hw'⟩
    · rw [decide_eq_false (show ¬ V.int (z : Nat) = V.int 0 from fun e => hz (by have := V.int.inj e; omega))]
      refine iteF ?_
      refine ⟨_, rfl, x, dx, _, rfl, hx, rfl, x, 1, 1, b, rfl, hw, by decide, by omega, fun H1 hb1 hw1 => ?_⟩
      obtain ⟨d1, h1⟩ := id hw1
      refine ⟨_, rfl, x, d1, _, rfl, h1, rfl, _, rfl, _, _, rfl, rfl, ?_⟩
      have e : (z : Int) - 1 = ((z - 1 : Nat) : Int) := by omega
      dsimp only
      rw [e]
      refine ⟨x, z - 1, _, rfl, hw1, by rw [List.length_append, u_len]; omega, fun H2 hb2 hw2 => k H2 (hb1.trans hb2) ?_⟩
      unfold Sound.flag
      rw [if_neg hz]
      have : b ++ (true :: Sound.run (z - 1)) = b ++ Sound.u 1 1 ++ Sound.run (z - 1) := by rw [List.append_assoc]; rfl
      rw [this]
      exact hw2
theorem cutI {es : List Int} {a b : Nat} (h1 : a ≤ b) (h2 : b ≤ es.length) : cutV (es.map V.int) (some (a : Int)) (some (b : Int)) = (slice es a b).map V.int := by
  unfold cutV HT.sIx slice
  simp only [List.length_map]
  rw [if_neg (by omega), if_neg (by omega), List.map_take, List.map_drop]
  have e1 : min ((a : Int)).toNat es.length = a := by omega
  have e2 : min ((b : Int)).toNat es.length = b := by omega
  rw [e1, e2]
def rBits (q : RW) (es : List Int) : Sound.Bits := Sound.u 3 q.r ++ q.groups.flatMap fun g => gBits g (slice es g.first g.last)
structure GOk (g : GW) (n : Nat) : Prop where
  le : g.first ≤ g.last
  last : g.last ≤ n
  g31 : g.g ≤ 31
  v63 : g.v ≤ 63
def spWRests (K : PySem.W.Frag) (C Cr Cg : Addr) : Sp := fun vs H Q _ => ∃ (x rx q : Addr) (r : RW) (es : List Int) (b : Sound.Bits), vs = [.ref x, .ref rx, .ref q] ∧ IsWr C H x b ∧ IsRW K Cr Cg H rx r ∧ SqL K H q (es.map V.int) ∧ (∀ g ∈ r.groups, GOk g es.length) ∧ r.r ≤ 7 ∧ (∀ e ∈ es, Sound.fold e < 2 ^ 40) ∧ es.length ≤ 1024 ∧ b.length + (rBits r es).length ≤ MANY ∧
  ∀ H', But x H H' → IsWr C H' x (b ++ rBits r es) → Q .non H'
theorem IsRW.fld {Cr Cg : Addr} {H : Hp} {rx : Addr} {r : RW} (h : IsRW K Cr Cg H rx r) : ∃ (dx p : Addr) (as : List Addr), H rx = some (.ins Cr dx (rwf (.int r.r) (.ref p) (.int r.bits))) ∧ H p = some (.lst (as.map V.ref)) ∧ as.length = r.groups.length ∧ ∀ (k : Nat) (a : Addr) (g : GW), as[k]? = some a → r.groups[k]? = some g → IsGW Cg H a g := by
  obtain ⟨dx, p, h1, as, h2, h3, h4⟩ := h
  exact ⟨dx, p, as, h1, h2, h3, h4⟩
theorem sc_write_rests : FnScope ["writer", "way", "rests", "group", "rest"] ["writer", "way", "rests"] (defScope s_write_rests) := ⟨rfl, rfl, rfl, by decide +kernel, rfl, by decide +kernel, by decide +kernel⟩
theorem flat_take_len {α : Type} (f : α → Sound.Bits) (l : List α) (i : Nat) : ((l.take i).flatMap f).length ≤ (l.flatMap f).length := by
  conv => rhs; rw [← List.take_append_drop i l, List.flatMap_append, List.length_append]
  omega
theorem flat_succ {α : Type} (f : α → Sound.Bits) {l : List α} {i : Nat} {x : α} (h : l[i]? = some x) : (l.take (i + 1)).flatMap f = (l.take i).flatMap f ++ f x := by
  rw [List.take_succ, h, List.flatMap_append]; simp
theorem ok_write_rests (T : Txt K mg A) : FnOk P w K mg base CX0 4 A.f_write_rests A.d_write_rests ["writer", "way", "rests"] (spWRests K A.c_BitWriter A.c_RestsWay A.c_GroupWay) := by
  refine T.F_write_rests.ok sc_write_rests (fun vs H Q E h => ?_) (fun cdv Ar outer s H vs Q E hr h => ?_)
  · obtain ⟨x, rx, q, r, es, b, rfl, _⟩ := h
    rfl
  · obtain ⟨x, rx, q, r, es, b, rfl, hw, hI, hq, hgs, hr7, hf, hel, hl, k⟩ := h
    have hr1 : Room 1 _ := hr.mono (by decide)
    refine ⟨_, pss_cons (ps_expr (pe_meth (pv 0) T.l_BitWriter T.e_BitWriter_unsigned (ok_BitWriter_unsigned T) hr1 T.b_BitWriter_unsigned .nil pass0 (pa_cons pe_int (pa_cons (pe_fld (pv 1) rfl) pa_nil))))
      (pss_one (ps_for PassesOwn.never rfl (pi_list (pe_fld (pv 1) rfl)) (pg_name (i := 3) sc_write_rests.nd rfl (Or.inl rfl))
        (pss_cons (ps_expr (pe_meth (pv 0) T.l_BitWriter T.e_BitWriter_unsigned (ok_BitWriter_unsigned T) hr1 T.b_BitWriter_unsigned .nil pass0 (pa_cons pe_int (pa_cons (pe_fld (pv 3) rfl) pa_nil))))
        (pss_cons (ps_if (pt_cmpR op_eq (pe_fld (pv 3) rfl) (pe_gi rfl T.g_PLAIN) (nomark _)) (pss_one (ps_expr (pe_meth (pv 0) T.l_BitWriter T.e_BitWriter_unsigned (ok_BitWriter_unsigned T) hr1 T.b_BitWriter_unsigned .nil pass0 (pa_cons pe_int (pa_cons (pe_fld (pv 3) rfl) pa_nil))))) pss_nil)
        (pss_one (ps_for PassesOwn.never rfl (pi_list (pe_slice sl_list (pv 2) (po_some (pe_fld (pv 3) rfl)) (po_some (pe_fld (pv 3) rfl)))) (pg_name (i := 4) sc_write_rests.nd rfl (Or.inl rfl))
          (pss_one (ps_expr (pe_call (ok_write_rest T) hr rfl T.m_write_rest T.F_write_rest.kp T.b_write_rest .nil pass0 (pa_cons (pv 0) (pa_cons (pv 3) (pa_cons (pv 4) pa_nil))))))))))))
      , ?_⟩
    obtain ⟨dx, hx⟩ := id hw
    obtain ⟨dr, p, as, hrx, hp, hal, hag⟩ := hI.fld
    unfold rBits at hl k
    rw [List.length_append, u_len] at hl
    refine ⟨_, rfl, x, dx, _, rfl, hx, rfl, _, rfl, rx, A.c_RestsWay, dr, _, _, rfl, hrx, T.l_RestsWay, T.n_RestsWay_r, rfl, x, 3, r.r, b, rfl, hw, (by show r.r < 8; omega), (by omega), fun H1 hb1 hw1 => ?_⟩
    have hrx1 := hb1 _ _ hrx (hw.ne hrx rfl)
    have hp1 : SqL K H1 p (as.map V.ref) := hb1.sq hx (SqL.of hp)
    refine ⟨_, rfl, rx, A.c_RestsWay, dr, _, _, rfl, hrx1, T.l_RestsWay, T.n_RestsWay_groups, rfl, p, rfl, ⟨_, hp1⟩, ?_⟩
    refine for_list (K := K) (a := p) (xs := as.map V.ref) (fun i σ H' => ∃ v3 v4 : Option V, σ = [some (.ref x), some (.ref rx), some (.ref q), v3, v4] ∧ But x H H' ∧ IsWr A.c_BitWriter H' x (b ++ Sound.u 3 r.r ++ (r.groups.take i).flatMap fun g => gBits g (slice es g.first g.last)))
      ⟨none, none, rfl, hb1, by rw [List.take_zero]; simpa using hw1⟩ (fun i σ H' _ ⟨_, _, _, hb, _⟩ => hb.sq hx (SqL.of hp)) ?_ ?_
    · rintro i y σ H2 hi ⟨v3, v4, rfl, hb2, hw2⟩
      obtain ⟨ai, hai, rfl⟩ := ref_get hi
      have hil : i < r.groups.length := by have := (List.getElem?_eq_some_iff.mp hai).1; omega
      have hgi := List.getElem?_eq_getElem hil
      generalize r.groups[i] = g at hgi
      obtain ⟨ok1, ok2, ok3, ok4⟩ := hgs g (List.mem_of_getElem? hgi)
      have hG := (hag i ai g hai hgi).but hw hb2
      obtain ⟨dg, hgx⟩ := id hG
      obtain ⟨d2, hx2⟩ := id hw2
      have hfs := flat_succ (fun g => gBits g (slice es g.first g.last)) hgi
      have htl := flat_take_len (fun g => gBits g (slice es g.first g.last)) r.groups (i + 1)
      rw [hfs, List.length_append] at htl
      generalize hpre : b ++ Sound.u 3 r.r ++ (r.groups.take i).flatMap (fun g => gBits g (slice es g.first g.last)) = pre at hw2 hx2
      have hprel : pre.length + (gBits g (slice es g.first g.last)).length ≤ MANY := by
        rw [← hpre, List.length_append, List.length_append, u_len]
        omega
      have hfin : ∀ H', But x H2 H' → IsWr A.c_BitWriter H' x (pre ++ gBits g (slice es g.first g.last)) → But x H H' ∧ IsWr A.c_BitWriter H' x (b ++ Sound.u 3 r.r ++ (r.groups.take (i + 1)).flatMap fun g => gBits g (slice es g.first g.last)) := fun H' hb hw' => ⟨hb2.trans hb, by
        rw [hfs, ← List.append_assoc, hpre]; exact hw'⟩
      unfold gBits at hprel hfin
      rw [List.length_append, u_len, List.length_append] at hprel
      refine ⟨_, rfl, x, d2, _, rfl, hx2, rfl, _, rfl, ai, A.c_GroupWay, dg, _, _, rfl, hgx, T.l_GroupWay, T.n_GroupWay_g, rfl, x, 5, g.g, pre, rfl, hw2, (by show g.g < 32; omega), by omega, fun H3 hb3 hw3 => ?_⟩
      have hG3 := hG.but hw2 hb3
      obtain ⟨dg3, hgx3⟩ := id hG3
      obtain ⟨d3, hx3⟩ := id hw3
      have loop : ∀ (D : Ends) (H4 : Hp) (pre4 : Sound.Bits) (v4 : Option V), But x H3 H4 → IsWr A.c_BitWriter H4 x pre4 → pre4.length + ((slice es g.first g.last).flatMap (restOne g.g g.v)).length ≤ MANY →
          (∀ v4 H', But x H4 H' → IsWr A.c_BitWriter H' x (pre4 ++ (slice es g.first g.last).flatMap (restOne g.g g.v)) → D.nx [some (V.ref x), some (V.ref rx), some (V.ref q), some (V.ref ai), v4] H') →
          tFor (iList K (tSl (rSlL K) (tVar 2) (tPart (tFld K (tVar 3) "first")) (tPart (tFld K (tVar 3) "last")))) (gName 4) (tDrop (tCall (spWRest A.c_BitWriter A.c_GroupWay) [] E0 (tCons (tVar 0) (tCons (tVar 3) (tCons (tVar 4) tNil))))) D [some (V.ref x), some (V.ref rx), some (V.ref q), some (V.ref ai), v4] H4 := by
        intro D H4 pre4 v4 hb4 hw4 hl4 fin4
        have hG4 := hG3.but hw3 hb4
        obtain ⟨dg4, hgx4⟩ := id hG4
        obtain ⟨d4, hx4⟩ := id hw4
        have hq4 : SqL K H4 q (es.map V.int) := (hb2.trans (hb3.trans hb4)).sq hx hq
        refine ⟨_, rfl, _, rfl, ai, A.c_GroupWay, dg4, _, _, rfl, hgx4, T.l_GroupWay, T.n_GroupWay_first, rfl, _, rfl, _, rfl, ai, A.c_GroupWay, dg4, _, _, rfl, hgx4, T.l_GroupWay, T.n_GroupWay_last, rfl, _, rfl, q, _, rfl, hq4, fun ps hps => ?_⟩
        rw [cutI ok1 ok2]
        have s5 : Same H4 (upd H4 ps (.lst ((slice es g.first g.last).map V.int))) := same_new hps
        refine ⟨ps, rfl, ⟨_, SqL.of upd_same⟩, ?_⟩
        refine for_list (K := K) (a := ps) (xs := (slice es g.first g.last).map V.int) (fun j σ H' => ∃ v4 : Option V, σ = [some (V.ref x), some (V.ref rx), some (V.ref q), some (V.ref ai), v4] ∧ But x (upd H4 ps (.lst ((slice es g.first g.last).map V.int))) H' ∧ IsWr A.c_BitWriter H' x (pre4 ++ ((slice es g.first g.last).take j).flatMap (restOne g.g g.v)))
          ⟨v4, rfl, But.refl _ _, by rw [List.take_zero]; exact ⟨d4, by simpa using s5 _ _ hx4⟩⟩ (fun j σ H' _ ⟨_, _, hb, _⟩ => hb.sq (s5 _ _ hx4) (SqL.of upd_same)) ?_ ?_
        · rintro j y σ H6 hj ⟨v4', rfl, hb6, hw6⟩
          obtain ⟨rfl, hjl⟩ := map_int_get hj
          have hje : (slice es g.first g.last)[j]? = some ((slice es g.first g.last).getD j 0) := by rw [List.getD_eq_getElem?_getD, List.getElem?_eq_getElem hjl]; rfl
          have hfj := flat_succ (restOne g.g g.v) hje
          have htj := flat_take_len (restOne g.g g.v) (slice es g.first g.last) (j + 1)
          rw [hfj, List.length_append] at htj
          have hG6 : IsGW A.c_GroupWay H6 ai g := (hG4.same s5).but ⟨d4, s5 _ _ hx4⟩ hb6
          refine ⟨_, rfl, _, rfl, _, rfl, x, ai, g, _, _, rfl, hw6, hG6, ok3, by omega, by rw [List.length_append]; omega, hf _ (mem_slice (List.mem_of_getElem? hje)), fun H7 hb7 hw7 => ⟨_, rfl, hb6.trans hb7, ?_⟩⟩
          rw [hfj, ← List.append_assoc]
          exact hw7
        · rintro σ H6 ⟨v4', rfl, hb6, hw6⟩
          rw [List.length_map, List.take_length] at hw6
          exact fin4 _ _ ((But.of s5).trans hb6) hw6
      refine ⟨_, rfl, ai, A.c_GroupWay, dg3, _, _, rfl, hgx3, T.l_GroupWay, T.n_GroupWay_g, rfl, rfl, _, rfl, ?_⟩
      by_cases h31 : g.g = 31
      · rw [decide_eq_true (show V.int (g.g : Nat) = V.int 31 by rw [h31]; rfl)]
        refine iteT ?_
        rw [if_pos h31, u_len] at hprel
        rw [if_pos h31] at hfin
        refine ⟨_, rfl, x, d3, _, rfl, hx3, rfl, _, rfl, ai, A.c_GroupWay, dg3, _, _, rfl, hgx3, T.l_GroupWay, T.n_GroupWay_v, rfl, x, 6, g.v, _, rfl, hw3, (by show g.v < 64; omega), by rw [List.length_append, u_len]; omega, fun H4 hb4 hw4 => ?_⟩
        refine loop _ H4 _ _ hb4 hw4 (by rw [List.length_append, List.length_append, u_len, u_len]; omega) fun v4' H' hb' hw' => ?_
        have z := hfin H' (hb3.trans (hb4.trans hb')) (by rw [← List.append_assoc, ← List.append_assoc]; exact hw')
        exact ⟨_, _, rfl, z.1, z.2⟩
      · rw [decide_eq_false (show ¬ V.int (g.g : Nat) = V.int 31 from fun z => h31 (by have := V.int.inj z; omega))]
        refine iteF ?_
        rw [if_neg h31, List.length_nil] at hprel
        rw [if_neg h31, List.nil_append] at hfin
        refine loop _ H3 _ _ (But.refl _ _) hw3 (by rw [List.length_append, u_len]; omega) fun v4' H' hb' hw' => ?_
        have z := hfin H' (hb3.trans hb') (by rw [← List.append_assoc]; exact hw')
        exact ⟨_, _, rfl, z.1, z.2⟩
    · rintro σ H2 ⟨v3, v4, rfl, hb2, hw2⟩
      rw [List.length_map, hal, List.take_length, List.append_assoc] at hw2
      exact k H2 hb2 hw2
structure PWd where
  kind : Nat
  z : Nat
  wd : Nat
  y : List Int
  a : List Int
  h : Nat
  q : RW
  bits : Nat
def IsPart (K : PySem.W.Frag) (A : Adr) (H : Hp) (x : Addr) (d : PWd) : Prop := ∃ dx sx gv rv, H x = some (.ins A.c_PartWay dx (pwf (.int d.kind) (.ref sx) gv rv (.int d.bits))) ∧ IsShrunk K A.c_Shrunk H sx d.wd d.z d.y ∧
  (2 ≤ d.kind → ∃ gx rx, gv = .ref gx ∧ rv = .ref rx ∧ IsGuess K A.c_Guess H gx d.a d.h ∧ IsRW K A.c_RestsWay A.c_GroupWay H rx d.q)
theorem IsPart.same {H H' : Hp} {x : Addr} {d : PWd} (s : Same H H') (h : IsPart K A H x d) : IsPart K A H' x d := by
  obtain ⟨dx, sx, gv, rv, h1, h2, h3⟩ := h
  refine ⟨dx, sx, gv, rv, s _ _ h1, h2.same s, fun hk => ?_⟩
  obtain ⟨gx, rx, e1, e2, h4, h5⟩ := h3 hk
  exact ⟨gx, rx, e1, e2, h4.same s, h5.same s⟩
def noRW : RW := ⟨0, [], 0⟩
def plainD (wd z : Nat) (y : List Int) : PWd := ⟨1, z, wd, y, [], 0, noRW, 1 + z + 4 + y.length * wd⟩
def sameD (wd z : Nat) (y : List Int) : PWd := ⟨0, z, wd, y, [], 0, noRW, 1 + z + 4 + wd⟩
def guessD (wd z : Nat) (y : List Int) (k : Nat) : Option PWd := match guessOf k y with
  | none => none
  | some (h, a) => (leastRests y.length (ordOf k) ((restsP a h y).map Sound.fold)).map fun q => ⟨k, z, wd, y, a, h, q, 1 + z + 4 + (ordOf k * wd + q.bits) + (if k ≤ 6 then 0 else 4 + (k - 6) * 12)⟩
theorem ne_pw {H : Hp} {x g C C' dx d : Addr} {kd sh gv rv b : V} {fs : List (Str × V)} (hx : H x = some (.ins C dx (pwf kd sh gv rv b))) (hg : H g = some (.ins C' d fs)) (hf : fs.lookup ("rests_way" : Str) = none) : g ≠ x := by
  refine ne_of hg hx fun e => ?_
  injection e with _ _ e
  rw [e] at hf
  cases hf
theorem sq_pw {H : Hp} {x q C dx : Addr} {fs : List (Str × V)} {o : HO} {xs : List V} (hx : H x = some (.ins C dx fs)) (h : SqL K H q xs) : SqL K (upd H x o) q xs := sq_upd h hx
theorem IsShrunk.pw {H : Hp} {x C dx sx : Addr} {kd sh gv rv b : V} {o : HO} {wd z : Nat} {y : List Int} (hx : H x = some (.ins C dx (pwf kd sh gv rv b))) (h : IsShrunk K A.c_Shrunk H sx wd z y) : IsShrunk K A.c_Shrunk (upd H x o) sx wd z y := by
  obtain ⟨d, l, h1, h2⟩ := h
  exact ⟨d, l, by rw [upd_ne (ne_pw hx h1 rfl)]; exact h1, sq_pw hx h2⟩
theorem IsGuess.pw {H : Hp} {x C dx gx : Addr} {kd sh gv rv b : V} {o : HO} {a : List Int} {hh : Nat} (hx : H x = some (.ins C dx (pwf kd sh gv rv b))) (h : IsGuess K A.c_Guess H gx a hh) : IsGuess K A.c_Guess (upd H x o) gx a hh := by
  obtain ⟨d, l, h1, h2⟩ := h
  exact ⟨d, l, by rw [upd_ne (ne_pw hx h1 rfl)]; exact h1, sq_pw hx h2⟩
theorem IsRW.pw {H : Hp} {x C dx rx : Addr} {kd sh gv rv b : V} {o : HO} {q : RW} (hx : H x = some (.ins C dx (pwf kd sh gv rv b))) (h : IsRW K A.c_RestsWay A.c_GroupWay H rx q) : IsRW K A.c_RestsWay A.c_GroupWay (upd H x o) rx q := by
  obtain ⟨d, p, h1, as, h2, h3, h4⟩ := h
  refine ⟨d, p, by rw [upd_ne (ne_pw hx h1 rfl)]; exact h1, as, by rw [upd_ne (ne_of h2 hx (by intro e; cases e))]; exact h2, h3, fun k a g e1 e2 => ?_⟩
  obtain ⟨dg, hg⟩ := h4 k a g e1 e2
  exact ⟨dg, by rw [upd_ne (ne_pw hx hg rfl)]; exact hg⟩
def spPlainF (K : PySem.W.Frag) (A : Adr) : Sp := fun vs H Q _ => ∃ (sx : Addr) (wd z : Nat) (y : List Int), vs = [.ref sx] ∧ IsShrunk K A.c_Shrunk H sx wd z y ∧ y.length ≤ 1024 ∧ ∀ x H', Same H H' → IsPart K A H' x (plainD wd z y) → Q (.ref x) H'
theorem sc_plain_way : FnScope ["shrunk", "way"] ["shrunk"] (defScope s_plain_way) := ⟨rfl, rfl, rfl, by decide +kernel, rfl, by decide +kernel, by decide +kernel⟩
theorem ok_plain_way (T : Txt K mg A) : FnOk P w K mg base CX0 3 A.f_plain_way A.d_plain_way ["shrunk"] (spPlainF K A) := by
  refine T.F_plain_way.ok sc_plain_way (fun vs H Q E h => ?_) (fun cdv Ar outer s H vs Q E hr h => ?_)
  · obtain ⟨sx, wd, z, y, rfl, _⟩ := h
    rfl
  · obtain ⟨sx, wd, z, y, rfl, hS, hl, k⟩ := h
    refine ⟨_, pss_cons (ps_set (i := 1) sc_plain_way.nd rfl (Or.inl rfl) (pe_make T.k_PartWay (ok_PartWay_init T) hr rfl T.m_PartWay T.b_PartWay_init .nil pass0 (pa_cons (pe_gi rfl T.g_PLAIN_KIND) (pa_cons (pv 0) (pa_cons pe_non pa_nil)))))
      (pss_cons (ps_fldaug (pv 1) (pe_op op_mul (pe_callB call_len_seq (by rfl) T.z_len PySem.boot_len (pa_cons (pe_fld (pv 0) rfl) pa_nil)) (pe_fld (pv 0) rfl)) in_add)
      (pss_one (ps_ret (pv 1)))), ?_⟩
    refine ⟨_, rfl, ?_⟩
    intro x dx hx hdx hne
    have sm2 : ∀ o, Same H (upd (upd H dx (.own x)) x o) := fun o => same_made hx hdx
    refine ⟨x, dx, sx, _, _, wd, z, y, rfl, upd_same, hS.same (sm2 _), rfl, ?_⟩
    rw [upd_made]
    obtain ⟨ds, l, hs, hls⟩ := hS.same (sm2 (.ins A.c_PartWay dx (pwf (V.int 1) (V.ref sx) V.non V.non (V.int ((1 + z + 4 : Nat) : Int)))))
    refine ⟨_, rfl, x, A.c_PartWay, dx, _, _, rfl, upd_same, T.l_PartWay, T.n_PartWay_bits, pwf_lb _ _ _ _ _, _, rfl, sx, A.c_Shrunk, ds, _, _, rfl, hs, T.l_Shrunk, T.n_Shrunk_numbers, rfl, l, _, rfl, .inl hls, _, rfl, sx, A.c_Shrunk, ds, _, _, rfl, hs, T.l_Shrunk, T.n_Shrunk_width, rfl, _, _, rfl, rfl, .inl ?_, _, _, rfl, rfl, dx, _, upd_same, (by show 5 < 1000; decide), ?_⟩
    · rw [List.length_map]
      have e64 : (2 : Int) ^ 64 = 18446744073709551616 := by decide
      omega
    · rw [pwf_bits, upd_upd]
      have eb : ((1 + z + 4 : Nat) : Int) + (((y.map V.int).length : Nat) : Int) * (wd : Nat) = ((1 + z + 4 + y.length * wd : Nat) : Int) := by
        rw [List.length_map]; push_cast; rfl
      dsimp only
      rw [eb]
      exact ⟨_, rfl, k x _ (sm2 _) ⟨dx, sx, _, _, upd_same, hS.same (sm2 _), fun hk => absurd hk (by show ¬ 2 ≤ 1; decide)⟩⟩
def spGuessedF (K : PySem.W.Frag) (A : Adr) : Sp := fun vs H Q _ => ∃ (k : Nat) (sx : Addr) (wd z : Nat) (y : List Int), vs = [.int k, .ref sx] ∧ IsShrunk K A.c_Shrunk H sx wd z y ∧ (2 ≤ k ∧ k ≤ 10 ∧ 1 ≤ y.length ∧ y.length ≤ 1024) ∧ Bd 16777216 y ∧
  (guessD wd z y k = none → ∀ H', Same H H' → Q .non H') ∧ (∀ d, guessD wd z y k = some d → ∀ x H', Same H H' → IsPart K A H' x d → Q (.ref x) H')
theorem sc_guessed_way : FnScope ["kind", "shrunk", "n", "order", "guess", "way"] ["kind", "shrunk"] (defScope s_guessed_way) := ⟨rfl, rfl, rfl, by decide +kernel, rfl, by decide +kernel, by decide +kernel⟩
theorem ok_guessed_way (T : Txt K mg A) : FnOk P w K mg base CX0 6 A.f_guessed_way A.d_guessed_way ["kind", "shrunk"] (spGuessedF K A) := by
  refine T.F_guessed_way.ok sc_guessed_way (fun vs H Q E h => ?_) (fun cdv Ar outer s H vs Q E hr h => ?_)
  · obtain ⟨k, sx, wd, z, y, rfl, _⟩ := h
    rfl
  · obtain ⟨k, sx, wd, z, y, rfl, hS, ⟨h2, h10, hn1, hn2⟩, hb, k0, k1⟩ := h
    have hr1 : Room 1 _ := hr.mono (by decide)
    have hr2 : Room 2 _ := hr.mono (by decide)
    have hr4 : Room 4 _ := hr.mono (by decide)
    refine ⟨_, pss_cons (ps_set (i := 2) sc_guessed_way.nd rfl (Or.inl rfl) (pe_callB call_len_seq (by rfl) T.z_len PySem.boot_len (pa_cons (pe_fld (pv 1) rfl) pa_nil)))
      (pss_cons (ps_set (i := 3) sc_guessed_way.nd rfl (Or.inl rfl) (pe_call (ok_order_of_kind T) hr1 rfl T.m_order_of_kind T.F_order_of_kind.kp T.b_order_of_kind .nil pass0 (pa_cons (pv 0) pa_nil)))
      (pss_cons (ps_set (i := 4) sc_guessed_way.nd rfl (Or.inl rfl) (pe_call (ok_chosen_guess T) hr4 rfl T.m_chosen_guess T.F_chosen_guess.kp T.b_chosen_guess .nil pass0 (pa_cons (pv 0) (pa_cons (pv 3) (pa_cons (pe_fld (pv 1) rfl) pa_nil)))))
      (pss_cons (ps_if (pt_cmp (pc_isN (pv 4))) (pss_one (ps_ret pe_non)) pss_nil)
      (pss_cons (ps_set (i := 5) sc_guessed_way.nd rfl (Or.inl rfl) (pe_make T.k_PartWay (ok_PartWay_init T) hr2 rfl T.m_PartWay T.b_PartWay_init .nil pass0 (pa_cons (pv 0) (pa_cons (pv 1) (pa_cons (pv 4) pa_nil)))))
      (pss_cons (ps_fld (pv 5) (pe_call (ok_least_rests T) hr rfl T.m_least_rests T.F_least_rests.kp T.b_least_rests .nil pass0 (pa_cons (pv 2) (pa_cons (pv 3) (pa_cons (pe_meth (pv 4) T.l_Guess T.e_Guess_all_rests (ok_Guess_all_rests T) hr2 T.b_Guess_all_rests .nil pass0 (pa_cons (pe_fld (pv 1) rfl) pa_nil)) pa_nil)))) rfl)
      (pss_cons (ps_fldaug (pv 5) (pe_op op_add (pe_op op_mul (pv 3) (pe_fld (pv 1) rfl)) (pe_fld (pe_fld (pv 5) rfl) rfl)) in_add)
      (pss_cons (ps_if (pt_cmpR op_ge (pv 0) (pe_gi rfl T.g_FIRST_LINEAR) (nomark _)) (pss_one (ps_fldaug (pv 5) (pe_op op_add pe_int (pe_op op_mul (pv 3) (pe_gi rfl T.g_FACTOR_WIDTH))) in_add)) pss_nil)
      (pss_one (ps_ret (pv 5)))))))))), ?_⟩
    obtain ⟨ds, l, hs, hls⟩ := id hS
    refine ⟨_, rfl, sx, A.c_Shrunk, ds, _, _, rfl, hs, T.l_Shrunk, T.n_Shrunk_numbers, rfl, l, _, rfl, .inl hls, ?_⟩
    refine ⟨_, rfl, k, rfl, ⟨h2, h10⟩, ?_⟩
    refine ⟨_, rfl, _, rfl, _, rfl, sx, A.c_Shrunk, ds, _, _, rfl, hs, T.l_Shrunk, T.n_Shrunk_numbers, rfl, k, l, y, rfl, hls, ⟨h2, h10, hn2⟩, hb, fun e H1 s1 => ?_, fun h a e x H1 hx s1 hg => ?_⟩
    · refine ⟨_, rfl, _, rfl, iteT ?_⟩
      exact k0 (by unfold guessD; rw [e]) H1 s1
    · refine ⟨_, rfl, _, rfl, iteF ?_⟩
      obtain ⟨g1, g2, g3⟩ := guessOf_ok h2 h10 e
      refine ⟨_, rfl, _, rfl, _, rfl, ?_⟩
      intro x2 dx2 hx2 hdx2 hne
      have sm : ∀ o, Same H1 (upd (upd H1 dx2 (.own x2)) x2 o) := fun o => same_made hx2 hdx2
      refine ⟨x2, dx2, sx, _, _, wd, z, y, rfl, upd_same, (hS.same s1).same (sm _), rfl, ?_⟩
      rw [upd_made]
      generalize hH2 : upd (upd H1 dx2 (.own x2)) x2 (.ins A.c_PartWay dx2 (pwf (V.int (k : Nat)) (V.ref sx) (V.ref x) V.non (V.int ((1 + z + 4 : Nat) : Int)))) = H2
      have s12 : Same H1 H2 := by rw [← hH2]; exact sm _
      have hw2 : H2 x2 = some (.ins A.c_PartWay dx2 (pwf (V.int (k : Nat)) (V.ref sx) (V.ref x) V.non (V.int ((1 + z + 4 : Nat) : Int)))) := by rw [← hH2]; exact upd_same
      have hg2 := hg.same s12
      obtain ⟨dg, pg, hgx, hgp⟩ := id hg2
      have hs2 := s12 _ _ (s1 _ _ hs)
      have hls2 := (s1.trans s12).seq hls
      refine ⟨_, rfl, _, rfl, _, rfl, x, dg, _, rfl, hgx, gf_all _ _, _, rfl, sx, A.c_Shrunk, ds, _, _, rfl, hs2, T.l_Shrunk, T.n_Shrunk_numbers, rfl, x, l, a, y, h, rfl, hg2, hls2, by omega, hn2, g2, fun D3 H3 hD3 s3 hx3 => ?_⟩
      have hrl : (restsP a h y).length + ordOf k = y.length := by
        unfold restsP
        rw [List.length_map, List.length_range]; omega
      have eln : (((y.map V.int).length : Nat) : Int) = (y.length : Nat) := by rw [List.length_map]
      refine ⟨D3, restsP a h y, y.length, ordOf k, by rw [eln]; rfl, SqL.of hx3, hrl, ⟨hn1, hn2⟩, fun rw_ xr H4 hrw s4 hI => ?_⟩
      have hw4 := s4 _ _ (s3 _ _ hw2)
      refine ⟨_, rfl, x2, A.c_PartWay, dx2, _, rfl, hw4, T.l_PartWay, T.n_PartWay_rests_way, (by show 5 < 1000; decide), ?_⟩
      rw [pwf_rw]
      obtain ⟨dr, pr, hxr, _⟩ := id hI
      have hne1 : xr ≠ x2 := ne_of hxr hw4 (by intro e; injection e with _ _ e; injection e with e1 _; injection e1 with e1 _; exact absurd e1 (by decide))
      have hs4 := s4 _ _ (s3 _ _ hs2)
      have hne2 : sx ≠ x2 := ne_of hs4 hw4 (by intro e; injection e with _ _ e; injection e with e1 _; injection e1 with e1 _; exact absurd e1 (by decide))
      have sall : Same H H4 := ((s1.trans s12).trans s3).trans s4
      have hx2H : H x2 = none := s1.free hx2
      have okS : ∀ o, Same H (upd H4 x2 o) := fun o => same_keep sall hx2H
      refine ⟨_, rfl, x2, A.c_PartWay, dx2, _, _, rfl, upd_same, T.l_PartWay, T.n_PartWay_bits, pwf_lb _ _ _ _ _, _, rfl, _, rfl, sx, A.c_Shrunk, ds, _, _, rfl, (by rw [upd_ne hne2]; exact hs4), T.l_Shrunk, T.n_Shrunk_width, rfl, _, _, rfl, rfl, .inl ?_,
        _, rfl, x2, A.c_PartWay, dx2, _, _, rfl, upd_same, T.l_PartWay, T.n_PartWay_rests_way, pwf_lr _ _ _ _ _, xr, A.c_RestsWay, dr, _, _, rfl, (by rw [upd_ne hne1]; exact hxr), T.l_RestsWay, T.n_RestsWay_bits, rwf_bits _ _ _, _, _, rfl, rfl, _, _, rfl, rfl, dx2, _, upd_same, (by show 5 < 1000; decide), ?_⟩
      · have e64 : (2 : Int) ^ 64 = 18446744073709551616 := by decide
        have : ordOf k ≤ 10 := by unfold ordOf; split <;> omega
        show -(2 ^ 64) < ((ordOf k : Nat) : Int) ∧ ((ordOf k : Nat) : Int) < 2 ^ 64
        omega
      · rw [pwf_bits, upd_upd]
        have eb : ((1 + z + 4 : Nat) : Int) + (((ordOf k : Nat) : Int) * (wd : Nat) + (rw_.bits : Nat)) = ((1 + z + 4 + (ordOf k * wd + rw_.bits) : Nat) : Int) := by push_cast; rfl
        have hk2 : guessD wd z y k = some ⟨k, z, wd, y, a, h, rw_, 1 + z + 4 + (ordOf k * wd + rw_.bits) + (if k ≤ 6 then 0 else 4 + (k - 6) * 12)⟩ := by
          unfold guessD
          rw [e]
          simp only
          rw [hrw]; rfl
        have hend : ∀ o b, o = HO.ins A.c_PartWay dx2 (pwf (V.int (k : Nat)) (V.ref sx) (V.ref x) (V.ref xr) (V.int (b : Nat))) → IsPart K A (upd H4 x2 o) x2 ⟨k, z, wd, y, a, h, rw_, b⟩ := fun o b eo => by
          subst eo
          exact ⟨dx2, sx, _, _, upd_same, IsShrunk.pw hw4 (hS.same sall), fun _ => ⟨x, xr, rfl, rfl, IsGuess.pw hw4 ((hg2.same s3).same s4), IsRW.pw hw4 hI⟩⟩
        show (fun G : Int → Prop => G (((1 + z + 4 : Nat) : Int) + (((ordOf k : Nat) : Int) * (wd : Nat) + (rw_.bits : Nat)))) (fun b1 => tSeq _ _ _ _ (upd H4 x2 (.ins A.c_PartWay dx2 (pwf (V.int (k : Nat)) (V.ref sx) (V.ref x) (V.ref xr) (V.int b1)))))
        rw [eb]
        show tSeq _ _ _ _ _
        refine ⟨_, rfl, _, _, rfl, rfl, _, rfl, ?_⟩
        by_cases h6 : k ≤ 6
        · rw [decide_eq_false (show ¬ (7 : Int) ≤ (k : Nat) by omega)]
          refine iteF ?_
          rw [if_pos h6, Nat.add_zero] at hk2
          exact ⟨_, rfl, k1 _ hk2 x2 _ (okS _) (hend _ _ rfl)⟩
        · rw [decide_eq_true (show (7 : Int) ≤ (k : Nat) by omega)]
          refine iteT ?_
          have hok : ordOf k = k - 6 := by unfold ordOf; rw [if_neg h6]
          refine ⟨_, rfl, x2, A.c_PartWay, dx2, _, _, rfl, upd_same, T.l_PartWay, T.n_PartWay_bits, pwf_lb _ _ _ _ _, _, rfl, _, _, rfl, rfl, .inr ⟨by decide, by decide⟩, _, _, rfl, rfl, _, _, rfl, rfl, dx2, _, upd_same, (by show 5 < 1000; decide), ?_⟩
          rw [pwf_bits, upd_upd]
          have ec : ((1 + z + 4 + (ordOf k * wd + rw_.bits) : Nat) : Int) + (4 + ((ordOf k : Nat) : Int) * 12) = ((1 + z + 4 + (ordOf k * wd + rw_.bits) + (4 + (k - 6) * 12) : Nat) : Int) := by rw [← hok]; push_cast; rfl
          rw [if_neg h6] at hk2
          refine ⟨_, rfl, k1 _ hk2 x2 _ (okS _) (hend _ _ ?_)⟩
          rw [← ec]
          rfl
def lpStep (wd z : Nat) (y : List Int) (l : PWd) (k : Nat) : PWd := match guessD wd z y k with
  | none => l
  | some d => if d.bits < l.bits then d else l
def leastDi (wd z : Nat) (y : List Int) (i : Nat) : PWd := ((List.range i).map (· + 2)).foldl (lpStep wd z y) (plainD wd z y)
theorem leastDi_succ (wd z : Nat) (y : List Int) (i : Nat) : leastDi wd z y (i + 1) = lpStep wd z y (leastDi wd z y i) (i + 2) := by
  unfold leastDi
  rw [List.range_succ, List.map_append, List.foldl_append]; rfl
def leastPartD (w o : Nat) (ns : List Int) : PWd := if Sound.same ns = true then sameD (w - Sound.zeros w ns) (Sound.zeros w ns) (Sound.shrunk w ns) else leastDi (w - Sound.zeros w ns) (Sound.zeros w ns) (Sound.shrunk w ns) (5 + o)
def spLP (K : PySem.W.Frag) (A : Adr) : Sp := fun vs H Q _ => ∃ (wd o : Nat) (q : Addr) (ns : List Int), vs = [.int wd, .int o, .ref q] ∧ SqL K H q (ns.map V.int) ∧ (1 ≤ wd ∧ wd ≤ 25 ∧ o ≤ 4) ∧ FitAll wd ns ∧ (1 ≤ ns.length ∧ ns.length ≤ 1024) ∧
  ∀ x H', Same H H' → IsPart K A H' x (leastPartD wd o ns) → Q (.ref x) H'
theorem sc_least_part : FnScope ["width", "order", "numbers", "shrunk", "way", "least", "kind", "number"] ["width", "order", "numbers"] (defScope s_least_part) := ⟨rfl, rfl, rfl, by decide +kernel, rfl, by decide +kernel, by decide +kernel⟩
theorem ok_least_part (T : Txt K mg A) : FnOk P w K mg base CX0 7 A.f_least_part A.d_least_part ["width", "order", "numbers"] (spLP K A) := by
  refine T.F_least_part.ok sc_least_part (fun vs H Q E h => ?_) (fun cdv Ar outer s H vs Q E hr h => ?_)
  · obtain ⟨wd, o, q, ns, rfl, _⟩ := h
    rfl
  · obtain ⟨wd, o, q, ns, rfl, hq, ⟨hw1, hw2, ho⟩, hf, ⟨hn1, hn2⟩, k⟩ := h
    have hr2 : Room 2 _ := hr.mono (by decide)
    have hr3 : Room 3 _ := hr.mono (by decide)
    refine ⟨_, pss_cons (ps_set (i := 3) sc_least_part.nd rfl (Or.inl rfl) (pe_make T.k_Shrunk (ok_Shrunk_init T) hr3 rfl T.m_Shrunk T.b_Shrunk_init .nil pass0 (pa_cons (pv 0) (pa_cons (pv 2) pa_nil))))
      (pss_cons (ps_if (pt_val (pe_callB (cr_all rfl) rfl T.z_all (by decide +kernel : bootBuiltins "all" = some (.builtin "all")) (pa_cons (pe_lc (own := [("number", 7)]) rfl sc_least_part.nd (pi_list (pv 2)) (blkOk_by (by kernel_rfl)) (fun _ _ _ _ _ => pg_name (i := 7) sc_least_part.nd rfl (Or.inl rfl)) (fun _ _ _ _ _ => pts_nil)
            (fun _ _ _ _ _ => pe_cmpR op_eq (pv 7) (pe_ix (ixL (K := K) rfl) (pv 2) pe_int (fun _ _ => rfl)) (nomark _))) pa_nil)))
          (pss_cons (ps_set (i := 4) sc_least_part.nd rfl (Or.inl rfl) (pe_make T.k_PartWay (ok_PartWay_init T) hr2 rfl T.m_PartWay T.b_PartWay_init .nil pass0 (pa_cons (pe_gi rfl T.g_SAME) (pa_cons (pv 3) (pa_cons pe_non pa_nil)))))
          (pss_cons (ps_fldaug (pv 4) (pe_fld (pv 3) rfl) in_add) (pss_one (ps_ret (pv 4))))) pss_nil)
      (pss_cons (ps_set (i := 5) sc_least_part.nd rfl (Or.inl rfl) (pe_call (ok_plain_way T) hr3 rfl T.m_plain_way T.F_plain_way.kp T.b_plain_way .nil pass0 (pa_cons (pv 3) pa_nil)))
      (pss_cons (ps_for PassesOwn.never rfl (pi_range2 rfl T.z_range (pa_cons (pe_gi rfl T.g_FIRST_FIXED) (pa_cons (pe_op op_add (pe_gi rfl T.g_FIRST_LINEAR) (pv 1)) pa_nil))) (pg_name (i := 6) sc_least_part.nd rfl (Or.inl rfl))
        (pss_cons (ps_set (i := 4) sc_least_part.nd rfl (Or.inl rfl) (pe_call (ok_guessed_way T) hr rfl T.m_guessed_way T.F_guessed_way.kp T.b_guessed_way .nil pass0 (pa_cons (pv 6) (pa_cons (pv 3) pa_nil))))
        (pss_one (ps_if (PW.pt (pw_and (pt_cmp (pc_notN (pv 4))) (pw_and1 (pt_cmpR op_lt (pe_fld (pv 4) rfl) (pe_fld (pv 5) rfl) (nomark _))))) (pss_one (ps_set (i := 5) sc_least_part.nd rfl (Or.inl rfl) (pv 4))) pss_nil))))
      (pss_one (ps_ret (pv 5)))))), ?_⟩
    have e62 : (2 : Int) ^ 62 = 4611686018427387904 := by decide
    have hbd := shrunk_bd hw2 hf
    have hyl : (Sound.shrunk wd ns).length = ns.length := by unfold Sound.shrunk; rw [List.length_map]
    refine ⟨_, rfl, _, rfl, ?_⟩
    intro x dx hx hdx hne
    have sm : Same H (upd (upd H dx (.own x)) x (.ins A.c_Shrunk dx [])) := same_made hx hdx
    refine ⟨x, dx, q, wd, ns, rfl, upd_same, sm.seq hq, ⟨hw1, hw2⟩, hf, hn2, fun H1 kp hS => ⟨rfl, ?_⟩⟩
    have s1 : Same H H1 := Same.made hx hdx kp
    have hq1 := s1.seq hq
    unfold leastPartD at k
    generalize Sound.shrunk wd ns = y at *
    generalize Sound.zeros wd ns = z at *
    generalize wd - z = wz at *
    refine ⟨_, rfl, q, rfl, ⟨_, hq1⟩, fun D hD => ?_⟩
    refine lc_val (J := Itl K q) hD ns.length (by rw [sizeLine_eq]; omega) (fun i => .bl (decide (V.int (ns.getD i 0) = V.int (ns.getD 0 0)))) (fun i Hh hi s2 => ⟨_, _, s2.seq hq1, int_get hi⟩) (fun Hh s2 => ⟨_, s2.seq hq1, by simp⟩) ?_ ?_
    · rintro i Hh v H' hi s2 ⟨rfl, hx2⟩ C hC
      obtain ⟨rfl, _⟩ := map_int_get (hx2 _ (s2.seq hq1))
      exact ⟨rfl, _, rfl, _, rfl, q, _, _, _, rfl, rfl, s2.seq hq1, atI_nat (j := 0) (int_get hn1), rfl, hC _ (Same.refl _)⟩
    intro H2 s2 hx2
    have s12 : Same H H2 := s1.trans s2
    have hS2 := hS.same s2
    have ebs : (List.range ns.length).map (fun i => V.bl (decide (V.int (ns.getD i 0) = V.int (ns.getD 0 0)))) = (ns.map fun v => v == ns.headD 0).map V.bl := by
      refine List.ext_getElem (by simp) fun i h1 h2 => ?_
      have hi : i < ns.length := by simpa using h2
      have hh : ns.getD 0 0 = ns.headD 0 := by cases ns <;> rfl
      simp [List.getD_eq_getElem?_getD, List.getElem?_eq_getElem hi]
      have h0 : ns[0]?.getD 0 = ns.head?.getD 0 := by cases ns <;> rfl
      rw [h0]
      rw [Bool.eq_iff_iff]; simp
    rw [ebs] at hx2
    refine ⟨D, _, rfl, SqL.of hx2, _, rfl, ?_⟩
    have esame : (ns.map fun v => v == ns.headD 0).all id = Sound.same ns := by unfold Sound.same; rw [List.all_map]; rfl
    rw [esame]
    refine ite2 (fun hsm => ?_) fun hsm => ?_
    · rw [if_pos hsm] at k
      refine ⟨_, rfl, ?_⟩
      intro x3 dx3 hx3 hdx3 hne3
      have sm3 : ∀ o, Same H2 (upd (upd H2 dx3 (.own x3)) x3 o) := fun o => same_made hx3 hdx3
      refine ⟨x3, dx3, x, _, _, wz, z, y, rfl, upd_same, hS2.same (sm3 _), rfl, ?_⟩
      rw [upd_made]
      obtain ⟨ds, l, hs, hls⟩ := hS2.same (sm3 (.ins A.c_PartWay dx3 (pwf (V.int 0) (V.ref x) V.non V.non (V.int ((1 + z + 4 : Nat) : Int)))))
      refine ⟨_, rfl, x3, A.c_PartWay, dx3, _, _, rfl, upd_same, T.l_PartWay, T.n_PartWay_bits, pwf_lb _ _ _ _ _, _, rfl, x, A.c_Shrunk, ds, _, _, rfl, hs, T.l_Shrunk, T.n_Shrunk_width, rfl, _, _, rfl, rfl, dx3, _, upd_same, (by show 5 < 1000; decide), ?_⟩
      rw [pwf_bits, upd_upd]
      have eb : ((1 + z + 4 : Nat) : Int) + (wz : Nat) = ((1 + z + 4 + wz : Nat) : Int) := by omega
      dsimp only
      rw [eb]
      exact ⟨_, rfl, k x3 _ (s12.trans (sm3 _)) ⟨dx3, x, _, _, upd_same, hS2.same (sm3 _), fun hk => absurd hk (by show ¬ 2 ≤ 0; decide)⟩⟩
    · rw [if_neg hsm] at k
      refine ⟨_, rfl, x, wz, z, y, rfl, hS2, by omega, fun x4 H3 s3 hP => ?_⟩
      refine ⟨_, rfl, _, _, rfl, rfl, _, _, rfl, ⟨by omega, by omega, by omega, by omega⟩, ?_⟩
      have en : ((7 : Int) + (o : Nat) - 2).toNat = 5 + o := by omega
      rw [en]
      refine for_range (lo := 2) (n := 5 + o) (fun i σ H' => ∃ (xl : Addr) (v4 v6 v7 : Option V), σ = [some (.int wd), some (.int o), some (.ref q), some (.ref x), v4, some (.ref xl), v6, v7] ∧ Same H2 H' ∧ IsPart K A H' xl (leastDi wz z y i))
        ⟨x4, none, none, none, rfl, s3, hP⟩ ?_ ?_
      · rintro i σ H4 hi ⟨xl, v4, v6, v7, rfl, s4, hPl⟩
        have e1 : (2 : Int) + (i : Nat) = ((i + 2 : Nat) : Int) := by omega
        rw [e1]
        have hst := leastDi_succ wz z y i
        refine ⟨_, rfl, _, rfl, i + 2, x, wz, z, y, rfl, hS2.same s4, ⟨by omega, by omega, by omega, by omega⟩, hbd, fun eg H5 s5 => ?_, fun d eg xd H5 s5 hPd => ?_⟩
        · refine ⟨_, rfl, _, rfl, iteF ?_⟩
          refine iteF ⟨xl, _, _, _, rfl, s4.trans s5, ?_⟩
          rw [hst]
          unfold lpStep
          rw [eg]
          exact hPl.same s5
        · obtain ⟨d1, a1, a2, a3, h1, _⟩ := id hPd
          obtain ⟨d2, b1, b2, b3, h2, _⟩ := id (hPl.same s5)
          refine ⟨_, rfl, _, rfl, iteT ?_⟩
          refine ⟨_, rfl, xd, A.c_PartWay, d1, _, _, rfl, h1, T.l_PartWay, T.n_PartWay_bits, pwf_lb _ _ _ _ _, _, rfl, xl, A.c_PartWay, d2, _, _, rfl, h2, T.l_PartWay, T.n_PartWay_bits, pwf_lb _ _ _ _ _, _, _, rfl, rfl, _, rfl, ?_⟩
          refine ite2 (fun hlt => ?_) fun hlt => ?_
          · have hlt : ((d.bits : Nat) : Int) < ((leastDi wz z y i).bits : Nat) := of_decide_eq_true hlt
            refine ⟨_, rfl, xd, _, _, _, rfl, s4.trans s5, ?_⟩
            rw [hst]
            unfold lpStep
            rw [eg]
            simp only
            rw [if_pos (by omega)]
            exact hPd
          · have hlt : ¬ ((d.bits : Nat) : Int) < ((leastDi wz z y i).bits : Nat) := fun zz => hlt (decide_eq_true zz)
            refine ⟨xl, _, _, _, rfl, s4.trans s5, ?_⟩
            rw [hst]
            unfold lpStep
            rw [eg]
            simp only
            rw [if_neg (by omega)]
            exact hPl.same s5
      · rintro σ H4 ⟨xl, v4, v6, v7, rfl, s4, hPl⟩
        exact ⟨_, rfl, k xl H4 (s12.trans s4) hPl⟩
def pBody (d : PWd) : Sound.Bits := if d.kind = 0 then Sound.sb d.wd (d.y.headD 0) else if d.kind = 1 then Sound.numbers d.wd d.y else
  Sound.numbers d.wd (d.y.take (ordOf d.kind)) ++ ((if d.kind ≤ 6 then [] else Sound.u 4 d.h ++ Sound.numbers 12 d.a) ++ rBits d.q (restsP d.a d.h d.y))
def pBits (d : PWd) : Sound.Bits := Sound.flag d.z ++ (Sound.u 4 d.kind ++ pBody d)
structure POk (d : PWd) : Prop where
  k10 : d.kind ≤ 10
  w25 : d.wd ≤ 25
  n1 : 1 ≤ d.y.length
  n2 : d.y.length ≤ 1024
  alen : 2 ≤ d.kind → d.a.length = ordOf d.kind ∧ ordOf d.kind ≤ d.y.length
  abd : 2 ≤ d.kind → Bd 2048 d.a
  h15 : d.h ≤ 15
  gs : 2 ≤ d.kind → ∀ g ∈ d.q.groups, GOk g (restsP d.a d.h d.y).length
  r7 : d.q.r ≤ 7
  fo : 2 ≤ d.kind → ∀ e ∈ restsP d.a d.h d.y, Sound.fold e < 2 ^ 40
theorem IsShrunk.but {C Cs : Addr} {H H' : Hp} {x sx : Addr} {b : Sound.Bits} {wd z : Nat} {y : List Int} (hw : IsWr C H x b) (hb : But x H H') (h : IsShrunk K Cs H sx wd z y) : IsShrunk K Cs H' sx wd z y := by
  obtain ⟨d, l, h1, h2⟩ := h
  obtain ⟨dx, hx⟩ := id hw
  exact ⟨d, l, hb _ _ h1 (hw.ne h1 rfl), hb.sq hx h2⟩
theorem IsGuess.but {C Cs : Addr} {H H' : Hp} {x gx : Addr} {b : Sound.Bits} {a : List Int} {h : Nat} (hw : IsWr C H x b) (hb : But x H H') (hg : IsGuess K Cs H gx a h) : IsGuess K Cs H' gx a h := by
  obtain ⟨d, l, h1, h2⟩ := hg
  obtain ⟨dx, hx⟩ := id hw
  exact ⟨d, l, hb _ _ h1 (hw.ne h1 rfl), hb.sq hx h2⟩
theorem IsRW.but {C Cr Cg : Addr} {H H' : Hp} {x rx : Addr} {b : Sound.Bits} {q : RW} (hw : IsWr C H x b) (hb : But x H H') (h : IsRW K Cr Cg H rx q) : IsRW K Cr Cg H' rx q := by
  obtain ⟨d, p, h1, as, h2, h3, h4⟩ := h
  obtain ⟨dx, hx⟩ := id hw
  exact ⟨d, p, hb _ _ h1 (hw.ne h1 rfl), as, hb _ _ h2 (ne_of h2 hx (by intro e; cases e)), h3, fun k a g e1 e2 => (h4 k a g e1 e2).but hw hb⟩
theorem IsPart.but {C : Addr} {H H' : Hp} {x px : Addr} {b : Sound.Bits} {d : PWd} (hw : IsWr C H x b) (hb : But x H H') (h : IsPart K A H px d) : IsPart K A H' px d := by
  obtain ⟨dx, sx, gv, rv, h1, h2, h3⟩ := h
  refine ⟨dx, sx, gv, rv, hb _ _ h1 (hw.ne h1 rfl), h2.but hw hb, fun hk => ?_⟩
  obtain ⟨gx, rx, e1, e2, h4, h5⟩ := h3 hk
  exact ⟨gx, rx, e1, e2, h4.but hw hb, h5.but hw hb⟩
def spWPart (K : PySem.W.Frag) (A : Adr) : Sp := fun vs H Q _ => ∃ (x px : Addr) (d : PWd) (b : Sound.Bits), vs = [.ref x, .ref px] ∧ IsWr A.c_BitWriter H x b ∧ IsPart K A H px d ∧ POk d ∧ b.length + (pBits d).length ≤ MANY ∧ ∀ H', But x H H' → IsWr A.c_BitWriter H' x (b ++ pBits d) → Q .non H'
theorem sc_write_part : FnScope ["writer", "way", "shrunk"] ["writer", "way"] (defScope s_write_part) := ⟨rfl, rfl, rfl, by decide +kernel, rfl, by decide +kernel, by decide +kernel⟩
theorem ok_write_part (T : Txt K mg A) : FnOk P w K mg base CX0 5 A.f_write_part A.d_write_part ["writer", "way"] (spWPart K A) := by
  refine T.F_write_part.ok sc_write_part (fun vs H Q E h => ?_) (fun cdv Ar outer s H vs Q E hr h => ?_)
  · obtain ⟨x, px, d, b, rfl, _⟩ := h
    rfl
  · obtain ⟨x, px, d, b, rfl, hw, hP, ok, hl, k⟩ := h
    have hr1 : Room 1 _ := hr.mono (by decide)
    have hr2 : Room 2 _ := hr.mono (by decide)
    have hr3 : Room 3 _ := hr.mono (by decide)
    refine ⟨_, pss_cons (ps_set (i := 2) sc_write_part.nd rfl (Or.inl rfl) (pe_fld (pv 1) rfl))
      (pss_cons (ps_expr (pe_call (ok_write_zeros T) hr3 rfl T.m_write_zeros T.F_write_zeros.kp T.b_write_zeros .nil pass0 (pa_cons (pv 0) (pa_cons (pe_fld (pv 2) rfl) pa_nil))))
      (pss_cons (ps_expr (pe_meth (pv 0) T.l_BitWriter T.e_BitWriter_unsigned (ok_BitWriter_unsigned T) hr1 T.b_BitWriter_unsigned .nil pass0 (pa_cons pe_int (pa_cons (pe_fld (pv 1) rfl) pa_nil))))
      (pss_one (ps_if (pt_cmpR op_eq (pe_fld (pv 1) rfl) (pe_gi rfl T.g_SAME) (nomark _))
        (pss_one (ps_expr (pe_meth (pv 0) T.l_BitWriter T.e_BitWriter_signed (ok_BitWriter_signed T) hr2 T.b_BitWriter_signed .nil pass0 (pa_cons (pe_fld (pv 2) rfl) (pa_cons (pe_ix ix_list (pe_fld (pv 2) rfl) pe_int (fun _ _ => rfl)) pa_nil)))))
        (pss_one (ps_if (pt_cmpR op_eq (pe_fld (pv 1) rfl) (pe_gi rfl T.g_PLAIN_KIND) (nomark _))
          (pss_one (ps_expr (pe_call (ok_write_plainly T) hr3 rfl T.m_write_plainly T.F_write_plainly.kp T.b_write_plainly .nil pass0 (pa_cons (pv 0) (pa_cons (pe_fld (pv 2) rfl) (pa_cons (pe_fld (pv 2) rfl) pa_nil))))))
          (pss_cons (ps_expr (pe_call (ok_write_plainly T) hr3 rfl T.m_write_plainly T.F_write_plainly.kp T.b_write_plainly .nil pass0 (pa_cons (pv 0) (pa_cons (pe_fld (pv 2) rfl) (pa_cons (pe_slice sl_list (pe_fld (pv 2) rfl) po_none (po_some (pe_call (ok_order_of_kind T) hr1 rfl T.m_order_of_kind T.F_order_of_kind.kp T.b_order_of_kind .nil pass0 (pa_cons (pe_fld (pv 1) rfl) pa_nil)))) pa_nil)))))
          (pss_cons (ps_if (pt_cmpR op_ge (pe_fld (pv 1) rfl) (pe_gi rfl T.g_FIRST_LINEAR) (nomark _))
            (pss_cons (ps_expr (pe_meth (pv 0) T.l_BitWriter T.e_BitWriter_unsigned (ok_BitWriter_unsigned T) hr1 T.b_BitWriter_unsigned .nil pass0 (pa_cons pe_int (pa_cons (pe_fld (pe_fld (pv 1) rfl) rfl) pa_nil))))
            (pss_one (ps_expr (pe_call (ok_write_plainly T) hr3 rfl T.m_write_plainly T.F_write_plainly.kp T.b_write_plainly .nil pass0 (pa_cons (pv 0) (pa_cons (pe_gi rfl T.g_FACTOR_WIDTH) (pa_cons (pe_fld (pe_fld (pv 1) rfl) rfl) pa_nil))))))) pss_nil)
          (pss_one (ps_expr (pe_call (ok_write_rests T) hr rfl T.m_write_rests T.F_write_rests.kp T.b_write_rests .nil pass0 (pa_cons (pv 0) (pa_cons (pe_fld (pv 1) rfl) (pa_cons (pe_meth (pe_fld (pv 1) rfl) T.l_Guess T.e_Guess_all_rests (ok_Guess_all_rests T) hr2 T.b_Guess_all_rests .nil pass0 (pa_cons (pe_fld (pv 2) rfl) pa_nil)) pa_nil)))))))))))))), ?_⟩
    obtain ⟨dx, sx, gv, rv, hpx, hS, hG⟩ := id hP
    obtain ⟨dw, hx⟩ := id hw
    obtain ⟨ds, l, hs, hls⟩ := id hS
    unfold pBits at hl k
    rw [List.length_append, List.length_append, flag_len, u_len] at hl
    refine ⟨_, rfl, px, A.c_PartWay, dx, _, _, rfl, hpx, T.l_PartWay, T.n_PartWay_shrunk, rfl, ?_⟩
    refine ⟨_, rfl, _, rfl, sx, A.c_Shrunk, ds, _, _, rfl, hs, T.l_Shrunk, T.n_Shrunk_z, rfl, x, d.z, b, rfl, hw, by omega, fun H1 hb1 hw1 => ?_⟩
    obtain ⟨d1, hx1⟩ := id hw1
    have hk16 : d.kind < 2 ^ 4 := by have := ok.k10; show d.kind < 16; omega
    refine ⟨_, rfl, x, d1, _, rfl, hx1, rfl, _, rfl, px, A.c_PartWay, dx, _, _, rfl, hb1 _ _ hpx (hw.ne hpx rfl), T.l_PartWay, T.n_PartWay_kind, rfl, x, 4, d.kind, _, rfl, hw1, hk16, by rw [List.length_append, flag_len]; omega, fun H2 hb12 hw2 => ?_⟩
    have hb2 : But x H H2 := hb1.trans hb12
    obtain ⟨d2, hx2⟩ := id hw2
    have hpx2 := hb2 _ _ hpx (hw.ne hpx rfl)
    have hs2 := hb2 _ _ hs (hw.ne hs rfl)
    have hls2 := hb2.sq hx hls
    generalize hpre : b ++ Sound.flag d.z ++ Sound.u 4 d.kind = pre at hw2 hx2
    have hprel : pre.length + (pBody d).length ≤ MANY := by rw [← hpre, List.length_append, List.length_append, flag_len, u_len]; omega
    have k2 : ∀ H', But x H2 H' → IsWr A.c_BitWriter H' x (pre ++ pBody d) → Q .non H' := fun H' hb hw' => k H' (hb2.trans hb) (by rw [← List.append_assoc, ← List.append_assoc, hpre]; exact hw')
    unfold pBody at hprel k2
    refine ⟨_, rfl, px, A.c_PartWay, dx, _, _, rfl, hpx2, T.l_PartWay, T.n_PartWay_kind, rfl, rfl, _, rfl, ?_⟩
    by_cases h0 : d.kind = 0
    · rw [decide_eq_true (show V.int (d.kind : Nat) = V.int 0 by rw [h0]; rfl)]
      rw [if_pos h0, sb_len] at hprel
      rw [if_pos h0] at k2
      refine iteT ?_
      have hhd : d.y.getD 0 0 = d.y.headD 0 := by cases d.y <;> rfl
      refine ⟨_, rfl, x, d2, _, rfl, hx2, rfl, _, rfl, sx, A.c_Shrunk, ds, _, _, rfl, hs2, T.l_Shrunk, T.n_Shrunk_width, rfl, _, rfl, sx, A.c_Shrunk, ds, _, _, rfl, hs2, T.l_Shrunk, T.n_Shrunk_numbers, rfl, l, _, _, _, rfl, rfl, hls2, atI_nat (j := 0) (int_get ok.n1), x, d.wd, _, _, rfl, hw2, hprel, (by have := ok.w25; omega), fun H3 hb3 hw3 => ?_⟩
      rw [hhd] at hw3
      exact k2 H3 hb3 hw3
    · rw [decide_eq_false (show ¬ V.int (d.kind : Nat) = V.int 0 from fun e => h0 (by have := V.int.inj e; omega))]
      rw [if_neg h0] at hprel k2
      refine iteF ?_
      refine ⟨_, rfl, px, A.c_PartWay, dx, _, _, rfl, hpx2, T.l_PartWay, T.n_PartWay_kind, rfl, rfl, _, rfl, ?_⟩
      by_cases h1 : d.kind = 1
      · rw [decide_eq_true (show V.int (d.kind : Nat) = V.int 1 by rw [h1]; rfl)]
        rw [if_pos h1, numbers_len] at hprel
        rw [if_pos h1] at k2
        refine iteT ?_
        exact ⟨_, rfl, _, rfl, sx, A.c_Shrunk, ds, _, _, rfl, hs2, T.l_Shrunk, T.n_Shrunk_width, rfl, _, rfl, sx, A.c_Shrunk, ds, _, _, rfl, hs2, T.l_Shrunk, T.n_Shrunk_numbers, rfl, x, l, d.wd, d.y, pre, rfl, hw2, hls2, (by have := ok.w25; omega), hprel, fun H3 hb3 hw3 => k2 H3 hb3 hw3⟩
      · rw [decide_eq_false (show ¬ V.int (d.kind : Nat) = V.int 1 from fun e => h1 (by have := V.int.inj e; omega))]
        rw [if_neg h1] at hprel k2
        refine iteF ?_
        have hk2 : 2 ≤ d.kind := by omega
        obtain ⟨gx, rx, eg, er, hGs, hRW⟩ := hG hk2
        obtain ⟨al1, al2⟩ := ok.alen hk2
        subst eg er
        have htl : (d.y.take (ordOf d.kind)).length = ordOf d.kind := by rw [List.length_take]; omega
        rw [List.length_append, numbers_len, htl, List.length_append] at hprel
        refine ⟨_, rfl, _, rfl, sx, A.c_Shrunk, ds, _, _, rfl, hs2, T.l_Shrunk, T.n_Shrunk_width, rfl, _, rfl, sx, A.c_Shrunk, ds, _, _, rfl, hs2, T.l_Shrunk, T.n_Shrunk_numbers, rfl, _, rfl, px, A.c_PartWay, dx, _, _, rfl, hpx2, T.l_PartWay, T.n_PartWay_kind, rfl, d.kind, rfl, ⟨hk2, ok.k10⟩, _, rfl, l, _, rfl, hls2, fun ps hps => ?_⟩
        have ecut : cutV (d.y.map V.int) none (some ((if d.kind ≤ 6 then d.kind - 2 else d.kind - 6 : Nat) : Int)) = (d.y.take (ordOf d.kind)).map V.int := by
          have := cutI (es := d.y) (a := 0) (b := ordOf d.kind) (Nat.zero_le _) al2
          unfold slice at this
          rw [List.drop_zero, Nat.sub_zero] at this
          exact this
        rw [ecut]
        have s3 : Same H2 (upd H2 ps (.lst ((d.y.take (ordOf d.kind)).map V.int))) := same_new hps
        have hw3 : IsWr A.c_BitWriter (upd H2 ps (.lst ((d.y.take (ordOf d.kind)).map V.int))) x pre := ⟨d2, s3 _ _ hx2⟩
        refine ⟨x, ps, d.wd, d.y.take (ordOf d.kind), pre, rfl, hw3, SqL.of upd_same, (by have := ok.w25; omega), by rw [htl]; omega, fun H4 hb34 hw4 => ?_⟩
        have hb4 : But x H2 H4 := (But.of s3).trans hb34
        have hb04 : But x H H4 := hb2.trans hb4
        obtain ⟨d4, hx4⟩ := id hw4
        have hpx4 := hb04 _ _ hpx (hw.ne hpx rfl)
        have hs4 := hb04 _ _ hs (hw.ne hs rfl)
        have hG4 := hGs.but hw hb04
        obtain ⟨dg, pg, hgx4, hgp4⟩ := id hG4
        have last : ∀ (D : Ends) (H5 : Hp) (pre5 : Sound.Bits), But x H4 H5 → IsWr A.c_BitWriter H5 x pre5 → pre5.length + (rBits d.q (restsP d.a d.h d.y)).length ≤ MANY → (∀ H', But x H5 H' → IsWr A.c_BitWriter H' x (pre5 ++ rBits d.q (restsP d.a d.h d.y)) → D.nx [some (V.ref x), some (V.ref px), some (V.ref sx)] H') →
            tDrop (tCall (spWRests K A.c_BitWriter A.c_RestsWay A.c_GroupWay) [] E0 (tCons (tVar 0) (tCons (tFld K (tVar 1) "rests_way") (tCons (tMeth A.c_Guess "all_rests" (spAllRests K A.c_Guess) [] E0 (tFld K (tVar 1) "guess") (tCons (tFld K (tVar 2) "numbers") tNil)) tNil)))) D [some (V.ref x), some (V.ref px), some (V.ref sx)] H5 := by
          intro D H5 pre5 hb5 hw5 hl5 fin5
          have hb05 : But x H H5 := hb04.trans hb5
          have hpx5 := hb05 _ _ hpx (hw.ne hpx rfl)
          have hs5 := hb05 _ _ hs (hw.ne hs rfl)
          have hls5 := hb05.sq hx hls
          have hG5 := hGs.but hw hb05
          obtain ⟨dg5, pg5, hgx5, _⟩ := id hG5
          obtain ⟨d5, hx5⟩ := id hw5
          refine ⟨_, rfl, _, rfl, px, A.c_PartWay, dx, _, _, rfl, hpx5, T.l_PartWay, T.n_PartWay_rests_way, rfl, _, rfl, px, A.c_PartWay, dx, _, _, rfl, hpx5, T.l_PartWay, T.n_PartWay_guess, rfl, gx, dg5, _, rfl, hgx5, gf_all _ _, _, rfl, sx, A.c_Shrunk, ds, _, _, rfl, hs5, T.l_Shrunk, T.n_Shrunk_numbers, rfl, gx, l, d.a, d.y, d.h, rfl, hG5, hls5, by omega, ok.n2, ok.abd hk2, fun D6 H6 hD6 s6 hx6 => ?_⟩
          have hRW6 := (hRW.but hw hb05).same s6
          have hrl : (restsP d.a d.h d.y).length ≤ 1024 := by
            unfold restsP
            rw [List.length_map, List.length_range]
            have := ok.n2
            omega
          exact ⟨x, rx, D6, d.q, restsP d.a d.h d.y, pre5, rfl, ⟨d5, s6 _ _ hx5⟩, hRW6, SqL.of hx6, ok.gs hk2, ok.r7, ok.fo hk2, hrl, hl5, fun H7 hb7 hw7 => fin5 H7 ((But.of s6).trans hb7) hw7⟩
        refine ⟨_, rfl, px, A.c_PartWay, dx, _, _, rfl, hpx4, T.l_PartWay, T.n_PartWay_kind, rfl, _, _, rfl, rfl, _, rfl, ?_⟩
        by_cases h6 : d.kind ≤ 6
        · rw [decide_eq_false (show ¬ (7 : Int) ≤ (d.kind : Nat) by omega)]
          rw [if_pos h6, List.length_nil] at hprel
          rw [if_pos h6, List.nil_append] at k2
          refine iteF ?_
          refine last _ H4 _ (But.refl _ _) hw4 (by rw [List.length_append, numbers_len, htl]; omega) fun H' hb' hw' => ?_
          exact k2 H' (hb4.trans hb') (by rw [← List.append_assoc]; exact hw')
        · rw [decide_eq_true (show (7 : Int) ≤ (d.kind : Nat) by omega)]
          rw [if_neg h6, List.length_append, u_len, numbers_len] at hprel
          rw [if_neg h6] at k2
          refine iteT ?_
          refine ⟨_, rfl, x, d4, _, rfl, hx4, rfl, _, rfl, px, A.c_PartWay, dx, _, _, rfl, hpx4, T.l_PartWay, T.n_PartWay_guess, rfl, gx, A.c_Guess, dg, _, _, rfl, hgx4, T.l_Guess, T.n_Guess_shift, gf_h _ _, x, 4, d.h, _, rfl, hw4, (by have := ok.h15; show d.h < 16; omega), by rw [List.length_append, numbers_len, htl]; omega, fun H5 hb5 hw5 => ?_⟩
          have hb05 : But x H H5 := hb04.trans hb5
          have hpx5 := hb05 _ _ hpx (hw.ne hpx rfl)
          obtain ⟨dg5, pg5, hgx5, hgp5⟩ := hGs.but hw hb05
          refine ⟨_, rfl, _, rfl, px, A.c_PartWay, dx, _, _, rfl, hpx5, T.l_PartWay, T.n_PartWay_guess, rfl, gx, A.c_Guess, dg5, _, _, rfl, hgx5, T.l_Guess, T.n_Guess_factors, gf_f _ _, x, pg5, 12, d.a, _, rfl, hw5, hgp5, by decide, by rw [List.length_append, List.length_append, numbers_len, htl, u_len]; omega, fun H6 hb6 hw6 => ?_⟩
          refine last _ H6 _ (hb5.trans hb6) hw6 (by rw [List.length_append, List.length_append, List.length_append, numbers_len, htl, u_len, numbers_len]; omega) fun H' hb' hw' => ?_
          refine k2 H' (hb4.trans (hb5.trans (hb6.trans hb'))) ?_
          have ea : pre ++ (Sound.numbers d.wd (d.y.take (ordOf d.kind)) ++ ((Sound.u 4 d.h ++ Sound.numbers 12 d.a) ++ rBits d.q (restsP d.a d.h d.y))) = pre ++ Sound.numbers d.wd (d.y.take (ordOf d.kind)) ++ Sound.u 4 d.h ++ Sound.numbers 12 d.a ++ rBits d.q (restsP d.a d.h d.y) := by simp only [List.append_assoc]
          rw [ea]
          exact hw'
theorem lrStep_is {n p : Nat} {F : List Nat} (P : RW → Prop) (hP : ∀ r, r ≤ 6 → canSplit n p r = true → P (restsWay n p r F (gOf F))) : ∀ (l : List Nat) (acc : Option RW), (∀ r ∈ l, r ≤ 6) → (∀ q, acc = some q → P q) → ∀ q, l.foldl (lrStep n p F) acc = some q → P q
  | [], acc, _, h, q, e => h q e
  | r :: l, acc, hl, h, q, e => by
    rw [List.foldl_cons] at e
    refine lrStep_is P hP l _ (fun x hx => hl x (List.mem_cons_of_mem _ hx)) (fun q' e' => ?_) q e
    unfold lrStep at e'
    by_cases hc : canSplit n p r = true
    · rw [if_pos hc] at e'
      have hr := hP r (hl r (by simp)) hc
      cases acc with
      | none => cases e'; exact hr
      | some a =>
        simp only at e'
        split at e'
        · cases e'; exact hr
        · cases e'; exact h _ rfl
    · rw [if_neg hc] at e'
      exact h q' e'
theorem leastRests_is {n p : Nat} {F : List Nat} {q : RW} (e : leastRests n p F = some q) : q = restsWay n p q.r F (gOf F) ∧ q.r ≤ 6 ∧ canSplit n p q.r = true :=
  lrStep_is (fun q => q = restsWay n p q.r F (gOf F) ∧ q.r ≤ 6 ∧ canSplit n p q.r = true) (fun r hr hc => ⟨rfl, hr, hc⟩) (List.range 7) none (fun r hr => by simp at hr; omega) (fun q e => by cases e) q e
theorem rBits_spec {n p : Nat} {es : List Int} {q : RW} (e : leastRests n p (es.map Sound.fold) = some q) : rBits q es = Sound.restBits (q.r, specGroups n p q.r es (gOf (es.map Sound.fold))) := by
  obtain ⟨e1, _, _⟩ := leastRests_is e
  unfold rBits Sound.restBits
  congr 1
  have eg : q.groups = splitGroups n p q.r (es.map Sound.fold) (gOf (es.map Sound.fold)) := congrArg RW.groups e1
  rw [eg]
  unfold splitGroups specGroups
  rw [List.flatMap_map, List.flatMap_map]
  congr 1
  funext i
  show gBits (leastGroup _ _ _ _) (slice es (leastGroup _ _ _ _).first (leastGroup _ _ _ _).last) = Sound.groupBits _ _
  rw [gBits_eq]
  unfold leastGroup wayOf
  simp only
  rw [slice_map]
theorem lgBest_le (X : List Nat) (G : Nat) (hG : G ≤ 31) : (lgBest X G).1 ≤ 31 := by
  unfold lgBest
  have : ∀ (l : List Nat) (s : Nat × Nat), (∀ g ∈ l, g ≤ 31) → s.1 ≤ 31 → (l.foldl (lgStep X) s).1 ≤ 31 := by
    intro l
    induction l with
    | nil => intro s _ h; exact h
    | cons g l ih =>
      intro s hl hs
      rw [List.foldl_cons]
      refine ih _ (fun x hx => hl x (List.mem_cons_of_mem _ hx)) ?_
      unfold lgStep
      split
      · exact hl g (by simp)
      · exact hs
  exact this _ _ (fun g hg => by simp at hg; omega) (by show 31 ≤ 31; decide)
theorem groups_ok {n p : Nat} {es : List Int} {q : RW} (e : leastRests n p (es.map Sound.fold) = some q) (hn : 1 ≤ n) (hes : es.length + p = n) (hf : ∀ e ∈ es, Sound.fold e < 2 ^ 40) : ∀ g ∈ q.groups, GOk g es.length := by
  obtain ⟨e1, h6, hc⟩ := leastRests_is e
  intro g hg
  rw [e1] at hg
  obtain ⟨i, hi, rfl⟩ := List.mem_map.mp hg
  have hi : i < 2 ^ q.r := by simpa using hi
  unfold canSplit at hc
  simp only [Bool.and_eq_true, decide_eq_true_eq] at hc
  obtain ⟨_, hsz, hpz⟩ := hc
  have h1 : (i + 1) * (n / 2 ^ q.r) ≤ 2 ^ q.r * (n / 2 ^ q.r) := Nat.mul_le_mul_right _ hi
  rw [Nat.mul_comm (2 ^ q.r), hsz] at h1
  have e2 : (i + 1) * (n / 2 ^ q.r) = i * (n / 2 ^ q.r) + n / 2 ^ q.r := by rw [Nat.add_mul, Nat.one_mul]
  refine ⟨?_, ?_, lgBest_le _ _ (gOf_ok).2, ?_⟩
  · show firstOf n p q.r i ≤ lastOf n p q.r i
    unfold firstOf lastOf
    split
    · exact Nat.zero_le _
    · omega
  · show lastOf n p q.r i ≤ es.length
    unfold lastOf
    omega
  · show bl (maxN _) ≤ 63
    refine Nat.le_trans (bl_le (v := 40) (maxN_lt (by decide) fun x hx => ?_)) (by decide)
    obtain ⟨e', he', rfl⟩ := List.mem_map.mp (mem_slice hx)
    exact hf e' he'
theorem guessOf_h {k : Nat} {y : List Int} {h : Nat} {a : List Int} (h2 : 2 ≤ k) (h10 : k ≤ 10) (e : guessOf k y = some (h, a)) : h ≤ 15 := by
  unfold guessOf at e
  by_cases h6 : k ≤ 6
  · rw [if_pos h6] at e
    split at e
    · cases e; decide
    · cases e
  · rw [if_neg h6] at e
    split at e
    · rename_i hp
      rw [linGuess_eq (by omega) (by omega) (by omega)] at e
      exact (factors_ok e (by omega) (by omega) (by omega)).2.2
    · cases e
theorem guessD_ok {wd z k : Nat} {y : List Int} (h2 : 2 ≤ k) (h10 : k ≤ 10) (hw : wd ≤ 25) (hb : Bd 16777216 y) (hn1 : 1 ≤ y.length) (hn2 : y.length ≤ 1024) {d : PWd} (e : guessD wd z y k = some d) :
    POk d ∧ (pBits d).length = d.bits ∧ d.z = z ∧ d.kind = k ∧ Sound.kindBits wd y k = some (Sound.u 4 k ++ pBody d) := by
  unfold guessD at e
  cases eg : guessOf k y with
  | none => rw [eg] at e; cases e
  | some ha =>
    obtain ⟨h, a⟩ := ha
    rw [eg] at e
    simp only at e
    obtain ⟨q, eq, rfl⟩ := Option.map_eq_some_iff.mp e
    obtain ⟨g1, g2, g3⟩ := guessOf_ok h2 h10 eg
    have hh := guessOf_h h2 h10 eg
    have ho4 : ordOf k ≤ 4 := by unfold ordOf; split <;> omega
    have hfo := rests_fold (h := h) g2 (by omega) hb
    have hrl : (restsP a h y).length + ordOf k = y.length := by
      unfold restsP
      rw [List.length_map, List.length_range]; omega
    have hgs := groups_ok eq hn1 hrl hfo
    have hr6 := (leastRests_is eq).2.1
    have hrb := rBits_spec eq
    have hcut := leastRests_eq (n := y.length) (p := ordOf k) hfo
    rw [eq] at hcut
    have hlen := bestCut_len hcut
    simp only [Option.map_some] at hlen
    rw [← hrb] at hlen
    have htl : (y.take (ordOf k)).length = ordOf k := by rw [List.length_take]; omega
    refine ⟨⟨h10, hw, hn1, hn2, fun _ => ⟨g1, g3⟩, fun _ => g2, hh, fun _ => hgs, (show q.r ≤ 7 by omega), fun _ => hfo⟩, ?_, rfl, rfl, ?_⟩
    · unfold pBits pBody
      simp only
      rw [if_neg (by omega), if_neg (by omega), List.length_append, List.length_append, List.length_append, List.length_append, flag_len, u_len, numbers_len, htl, hlen]
      by_cases h6 : k ≤ 6
      · rw [if_pos h6, if_pos h6]; simp; omega
      · rw [if_neg h6, if_neg h6, List.length_append, u_len, numbers_len, g1]
        have : ordOf k = k - 6 := by unfold ordOf; rw [if_neg h6]
        rw [this]; omega
    · unfold Sound.kindBits pBody
      simp only [if_neg (show ¬ k = 0 by omega), if_neg (show ¬ k = 1 by omega)]
      unfold guessOf at eg
      by_cases h6 : k ≤ 6
      · rw [if_pos h6] at eg
        have ek : ordOf k = k - 2 := by unfold ordOf; rw [if_pos h6]
        rw [ek] at g1 g3 hcut hrb ⊢
        rw [if_pos (by omega)] at eg
        cases eg
        rw [if_pos h6, if_neg (by omega), rests_eq (by omega), hcut, if_pos h6]
        show some _ = some _
        rw [hrb, List.nil_append]
      · rw [if_neg h6] at eg
        have ek : ordOf k = k - 6 := by unfold ordOf; rw [if_neg h6]
        rw [ek] at g1 g3 hcut hrb ⊢
        by_cases hp : k - 6 < y.length
        · rw [if_pos hp, linGuess_eq (by omega) (by omega) (by omega)] at eg
          rw [if_neg h6, if_neg (by omega), eg]
          simp only
          rw [rests_eq (by omega), hcut, if_neg h6]
          show some _ = some _
          rw [hrb, List.append_assoc]
        · rw [if_neg hp] at eg; cases eg
theorem guessD_none {wd z k : Nat} {y : List Int} (h2 : 2 ≤ k) (h10 : k ≤ 10) (hb : Bd 16777216 y) (e : guessD wd z y k = none) : Sound.kindBits wd y k = none := by
  have hk := kind_len (w := wd) (z := z) (y := y) (kind := k) (by omega) h10 hb
  rw [kindN_guess h2] at hk
  have : (match guessOf k y with
    | none => none
    | some (h, a) => guessed wd z (ordOf k) a h y (if k ≤ 6 then 0 else 4 + (k - 6) * 12) : Option Nat) = none := by
    unfold guessD at e
    cases eg : guessOf k y with
    | none => rfl
    | some ha =>
      obtain ⟨h, a⟩ := ha
      rw [eg] at e
      simp only at e ⊢
      unfold guessed
      rw [Option.map_eq_none_iff] at e ⊢
      exact e
  exact Option.map_eq_none_iff.mp (hk.trans this)
theorem plainD_ok {wd z : Nat} {y : List Int} (hw : wd ≤ 25) (hn1 : 1 ≤ y.length) (hn2 : y.length ≤ 1024) : POk (plainD wd z y) ∧ (pBits (plainD wd z y)).length = (plainD wd z y).bits := by
  refine ⟨⟨by show 1 ≤ 10; decide, hw, hn1, hn2, fun h => absurd h (by show ¬ 2 ≤ 1; decide), fun h => absurd h (by show ¬ 2 ≤ 1; decide), by show 0 ≤ 15; decide, fun h => absurd h (by show ¬ 2 ≤ 1; decide), by show 0 ≤ 7; decide, fun h => absurd h (by show ¬ 2 ≤ 1; decide)⟩, ?_⟩
  show (Sound.flag z ++ (Sound.u 4 1 ++ Sound.numbers wd y)).length = 1 + z + 4 + y.length * wd
  rw [List.length_append, List.length_append, flag_len, u_len, numbers_len]; omega
theorem sameD_ok {wd z : Nat} {y : List Int} (hw : wd ≤ 25) (hn1 : 1 ≤ y.length) (hn2 : y.length ≤ 1024) : POk (sameD wd z y) ∧ (pBits (sameD wd z y)).length = (sameD wd z y).bits := by
  refine ⟨⟨by show 0 ≤ 10; decide, hw, hn1, hn2, fun h => absurd h (by show ¬ 2 ≤ 0; decide), fun h => absurd h (by show ¬ 2 ≤ 0; decide), by show 0 ≤ 15; decide, fun h => absurd h (by show ¬ 2 ≤ 0; decide), by show 0 ≤ 7; decide, fun h => absurd h (by show ¬ 2 ≤ 0; decide)⟩, ?_⟩
  show (Sound.flag z ++ (Sound.u 4 0 ++ Sound.sb wd (y.headD 0))).length = 1 + z + 4 + wd
  rw [List.length_append, List.length_append, flag_len, u_len, sb_len]; omega
def keep (l d : PWd) : PWd := if d.bits < l.bits then d else l
theorem lp_filter (wd z : Nat) (y : List Int) : ∀ (ks : List Nat) (l : PWd), ks.foldl (lpStep wd z y) l = (ks.filterMap (guessD wd z y)).foldl keep l
  | [], l => rfl
  | k :: ks, l => by
    rw [List.foldl_cons, lp_filter wd z y ks, List.filterMap_cons]
    unfold lpStep
    cases guessD wd z y k <;> rfl
theorem keep_least : ∀ (gs : List PWd) (l : PWd), (gs.map fun d => (pBits d, d.bits)).foldl comb (some (pBits l, l.bits)) = some (pBits (gs.foldl keep l), (gs.foldl keep l).bits)
  | [], l => rfl
  | d :: gs, l => by
    rw [List.map_cons, List.foldl_cons, List.foldl_cons, ← keep_least gs]
    congr 1
    unfold keep
    show (if d.bits < l.bits then _ else _) = _
    split <;> rfl
theorem keep_all {Pd : PWd → Prop} : ∀ (gs : List PWd) (l : PWd), Pd l → (∀ d ∈ gs, Pd d) → Pd (gs.foldl keep l)
  | [], l, h, _ => h
  | d :: gs, l, h, hg => by
    rw [List.foldl_cons]
    refine keep_all gs _ ?_ fun x hx => hg x (List.mem_cons_of_mem _ hx)
    unfold keep
    split
    · exact hg d (by simp)
    · exact h
theorem part_eq {wd o : Nat} {ns : List Int} (hw1 : 1 ≤ wd) (hw2 : wd ≤ 25) (ho : o ≤ 4) (hf : FitAll wd ns) (hn1 : 1 ≤ ns.length) (hn2 : ns.length ≤ 1024) :
    Sound.part wd o ns = pBits (leastPartD wd o ns) ∧ POk (leastPartD wd o ns) ∧ (pBits (leastPartD wd o ns)).length = (leastPartD wd o ns).bits := by
  have hbd := shrunk_bd hw2 hf
  have hyl : (Sound.shrunk wd ns).length = ns.length := by unfold Sound.shrunk; rw [List.length_map]
  unfold Sound.part leastPartD
  by_cases hs : Sound.same ns = true
  · rw [if_pos hs, if_pos hs]
    obtain ⟨p1, p2⟩ := sameD_ok (wd := wd - Sound.zeros wd ns) (z := Sound.zeros wd ns) (y := Sound.shrunk wd ns) (by omega) (by omega) (by omega)
    refine ⟨?_, p1, p2⟩
    unfold Sound.partOf Sound.kindBits
    rfl
  · rw [if_neg hs, if_neg hs]
    unfold Sound.partOf
    generalize Sound.shrunk wd ns = y at *
    generalize Sound.zeros wd ns = z at *
    have hwz : wd - z ≤ 25 := by omega
    generalize wd - z = wz at *
    obtain ⟨p1, p2⟩ := plainD_ok (wd := wz) (z := z) (y := y) hwz (by omega) (by omega)
    have hk : Sound.kinds o = 1 :: (List.range (5 + o)).map (· + 2) := by
      unfold Sound.kinds
      rw [show 6 + o = (5 + o) + 1 by omega, List.range_succ_eq_map, List.map_cons, List.map_map]
      rfl
    have hg : ∀ k ∈ (List.range (5 + o)).map (· + 2), 2 ≤ k ∧ k ≤ 10 := fun k hk => by
      obtain ⟨i, hi, rfl⟩ := List.mem_map.mp hk
      have : i < 5 + o := by simpa using hi
      omega
    have hfm : ∀ ks : List Nat, (∀ k ∈ ks, 2 ≤ k ∧ k ≤ 10) → (ks.filterMap fun (k : Nat) => ((Sound.kindBits wz y k).map fun (b : Sound.Bits) => Sound.flag z ++ b).map fun (b : Sound.Bits) => (b, b.length)) = (ks.filterMap (guessD wz z y)).map fun d => (pBits d, d.bits) := by
      intro ks
      induction ks with
      | nil => intro _; rfl
      | cons k ks ih =>
        intro h
        have ih := ih fun x hx => h x (List.mem_cons_of_mem _ hx)
        obtain ⟨a1, a2⟩ := h k (by simp)
        rw [List.filterMap_cons, List.filterMap_cons]
        cases e : guessD wz z y k with
        | none =>
          rw [guessD_none a1 a2 hbd e]
          exact ih
        | some d =>
          obtain ⟨_, g2, g3, g4, g5⟩ := guessD_ok a1 a2 hwz hbd (by omega) (by omega) e
          rw [g5]
          simp only [Option.map_some, List.map_cons]
          have eb : Sound.flag z ++ (Sound.u 4 k ++ pBody d) = pBits d := by unfold pBits; rw [g3, g4]
          rw [eb, g2, ih]
    have hall : ∀ d ∈ ((List.range (5 + o)).map (· + 2)).filterMap (guessD wz z y), POk d ∧ (pBits d).length = d.bits := fun d hd => by
      obtain ⟨k, hkm, e⟩ := List.mem_filterMap.mp hd
      obtain ⟨a1, a2⟩ := hg k hkm
      obtain ⟨g1, g2, _⟩ := guessD_ok a1 a2 hwz hbd (by omega) (by omega) e
      exact ⟨g1, g2⟩
    have hfin := keep_all (Pd := fun d => POk d ∧ (pBits d).length = d.bits) _ (plainD wz z y) ⟨p1, p2⟩ hall
    unfold leastDi
    rw [lp_filter]
    refine ⟨?_, hfin.1, hfin.2⟩
    rw [hk, List.filterMap_cons]
    have e1 : ((Sound.kindBits wz y 1).map fun (b : Sound.Bits) => Sound.flag z ++ b).map (fun (b : Sound.Bits) => (b, b.length)) = some (pBits (plainD wz z y), (plainD wz z y).bits) := by
      rw [← p2]; rfl
    rw [e1, hfm _ hg]
    simp only
    rw [← leastOf_foldl, List.foldl_cons]
    have e2 : comb none (pBits (plainD wz z y), (plainD wz z y).bits) = some (pBits (plainD wz z y), (plainD wz z y).bits) := rfl
    rw [e2, keep_least]
    rfl
def prf (m p b : V) : List (Str × V) := [("mode", m), ("parts", p), ("bits", b)]
theorem prf_put (m p b : V) : putF "bits" b (putF "parts" p (putF "mode" m [])) = prf m p b := by
  have e1 : putF "mode" m [] = [(("mode" : Str), m)] := rfl
  rw [e1]
  have n1 : ¬ ("mode" : Str) = "parts" := by decide
  have n2 : ¬ ("mode" : Str) = "bits" := by decide
  have n3 : ¬ ("parts" : Str) = "bits" := by decide
  simp only [putF, if_neg n1, if_neg n2, if_neg n3]
  rfl
def IsPair (K : PySem.W.Frag) (A : Adr) (H : Hp) (x : Addr) (m : Nat) (d1 d2 : PWd) : Prop := ∃ dx p a1 a2, H x = some (.ins A.c_PairWay dx (prf (.int m) (.ref p) (.int ((d1.bits + d2.bits : Nat) : Int)))) ∧ H p = some (.lst [.ref a1, .ref a2]) ∧ IsPart K A H a1 d1 ∧ IsPart K A H a2 d2
theorem IsPair.same {H H' : Hp} {x : Addr} {m : Nat} {d1 d2 : PWd} (s : Same H H') (h : IsPair K A H x m d1 d2) : IsPair K A H' x m d1 d2 := by
  obtain ⟨dx, p, a1, a2, h1, h2, h3, h4⟩ := h
  exact ⟨dx, p, a1, a2, s _ _ h1, s _ _ h2, h3.same s, h4.same s⟩
def spPairI (K : PySem.W.Frag) (A : Adr) : Sp := fun vs H Q _ => ∃ (p dx l a1 a2 : Addr) (m : Nat) (d1 d2 : PWd), vs = [.ref p, .int m, .ref l] ∧ H p = some (.ins A.c_PairWay dx []) ∧ H l = some (.lst [.ref a1, .ref a2]) ∧ IsPart K A H a1 d1 ∧ IsPart K A H a2 d2 ∧
  ∀ H', But p H H' → H' p = some (.ins A.c_PairWay dx (prf (.int m) (.ref l) (.int ((d1.bits + d2.bits : Nat) : Int)))) → Q .non H'
theorem sc_PairWay_init : FnScope ["self", "mode", "parts", "part"] ["self", "mode", "parts"] (defScope s_PairWay_init) := ⟨rfl, rfl, rfl, by decide +kernel, rfl, by decide +kernel, by decide +kernel⟩
theorem ok_PairWay_init (T : Txt K mg A) : FnOk P w K mg base CX0 1 A.f_PairWay_init A.d_PairWay_init ["self", "mode", "parts"] (spPairI K A) := by
  refine T.F_PairWay_init.ok sc_PairWay_init (fun vs H Q E h => ?_) (fun cdv Ar outer s H vs Q E hr h => ?_)
  · obtain ⟨p, dx, l, a1, a2, m, d1, d2, rfl, _⟩ := h
    rfl
  · obtain ⟨p, dx, l, a1, a2, m, d1, d2, rfl, hp, hl, h1, h2, k⟩ := h
    refine ⟨_, pss_cons (ps_fld (pv 0) (pv 1) rfl) (pss_cons (ps_fld (pv 0) (pv 2) rfl) (pss_one (ps_fld (pv 0) (pe_callB (cr_sum rfl) rfl T.z_sum (by decide +kernel : bootBuiltins "sum" = some (.builtin "sum"))
      (pa_cons (pe_lc (own := [("part", 3)]) rfl sc_PairWay_init.nd (pi_list (pv 2)) (blkOk_by (by kernel_rfl)) (fun _ _ _ _ _ => pg_name (i := 3) sc_PairWay_init.nd rfl (Or.inl rfl)) (fun _ _ _ _ _ => pts_nil) (fun _ _ _ _ _ => pfldK (K := K) rfl (pv 3) rfl)) pa_nil)) rfl))), ?_⟩
    have f1 : (putF "mode" (.int m) []).length ≤ 1 := length_putF _ _ _
    have f2 : (putF "parts" (.ref l) (putF "mode" (.int m) [])).length ≤ 2 := Nat.le_trans (length_putF _ _ _) (by omega)
    have hlp : l ≠ p := ne_of hl hp (by intro e; cases e)
    obtain ⟨e1, b1, c1, g1, hx1, _⟩ := h1
    obtain ⟨e2, b2, c2, g2, hx2, _⟩ := h2
    have hn1 : a1 ≠ p := ne_of hx1 hp (by intro e; injection e with _ _ e; cases e)
    have hn2 : a2 ≠ p := ne_of hx2 hp (by intro e; injection e with _ _ e; cases e)
    refine ⟨_, rfl, _, rfl, p, A.c_PairWay, dx, _, rfl, hp, T.l_PairWay, T.n_PairWay_mode, (by show 0 < 1000; decide), ?_⟩
    refine ⟨_, rfl, _, rfl, p, A.c_PairWay, dx, _, rfl, upd_same, T.l_PairWay, T.n_PairWay_parts, by omega, ?_⟩
    rw [upd_upd]
    generalize hH1 : upd H p (.ins A.c_PairWay dx (putF "parts" (.ref l) (putF "mode" (.int m) []))) = H1
    have b01 : But p H H1 := by rw [← hH1]; exact But.upd
    have hl1 := b01 _ _ hl hlp
    have hp1 : H1 p = some (.ins A.c_PairWay dx (putF "parts" (.ref l) (putF "mode" (.int m) []))) := by rw [← hH1]; exact upd_same
    refine ⟨_, rfl, l, rfl, ⟨_, SqL.of hl1⟩, fun D hD => ?_⟩
    refine lc_val (J := Itl K l) hD 2 (by rw [sizeLine_eq]; omega) (fun i => .int (([d1.bits, d2.bits].getD i 0 : Nat) : Int)) (fun i Hh hi s1 => ⟨_, _, s1.seq (SqL.of hl1), List.getElem?_eq_getElem (by simpa using hi)⟩) (fun Hh s1 => ⟨_, s1.seq (SqL.of hl1), by simp⟩) ?_ ?_
    · rintro i Hh v H' hi s1 ⟨rfl, hv⟩ C hC
      have hv := hv _ (s1.seq (SqL.of hl1))
      rcases (by omega : i = 0 ∨ i = 1) with rfl | rfl
      · cases hv
        exact ⟨rfl, _, rfl, a1, A.c_PartWay, e1, _, _, rfl, s1 _ _ (b01 _ _ hx1 hn1), T.l_PartWay, T.n_PartWay_bits, pwf_lb _ _ _ _ _, hC _ (Same.refl _)⟩
      · cases hv
        exact ⟨rfl, _, rfl, a2, A.c_PartWay, e2, _, _, rfl, s1 _ _ (b01 _ _ hx2 hn2), T.l_PartWay, T.n_PartWay_bits, pwf_lb _ _ _ _ _, hC _ (Same.refl _)⟩
    · intro H2 s2 hx
      have hsum : ([((d1.bits : Nat) : Int), ((d2.bits : Nat) : Int)] : List Int).sum = ((d1.bits + d2.bits : Nat) : Int) := by simp
      refine ⟨D, [((d1.bits : Nat) : Int), ((d2.bits : Nat) : Int)], rfl, SqL.of hx, _, rfl, p, A.c_PairWay, dx, _, rfl, s2 _ _ hp1, T.l_PairWay, T.n_PairWay_bits, by omega, ?_⟩
      rw [prf_put, hsum]
      exact k _ ((b01.trans (But.of s2)).trans But.upd) upd_same
def fmf (c d b o g s : V) : List (Str × V) := [("channels", c), ("depth", d), ("block", b), ("order", o), ("group", g), ("spare", s)]
def IsForm (C : Addr) (H : Hp) (x : Addr) (c d b o : Nat) : Prop := ∃ dx g s, H x = some (.ins C dx (fmf (.int c) (.int d) (.int b) (.int o) g s))
theorem IsForm.same {C : Addr} {H H' : Hp} {x : Addr} {c d b o : Nat} (s : Same H H') (h : IsForm C H x c d b o) : IsForm C H' x c d b o := by
  obtain ⟨dx, g1, s1, h⟩ := h
  exact ⟨dx, g1, s1, s _ _ h⟩
theorem zip_get {f : Int → Int → Int} (l r : List Int) (h : l.length = r.length) : (List.range l.length).map (fun i => V.int (f (l.getD i 0) (r.getD i 0))) = (List.zipWith f l r).map V.int := by
  refine List.ext_getElem (by simp; omega) fun i h1 h2 => ?_
  have hi : i < l.length := by simpa using h1
  have hi2 : i < r.length := by omega
  simp [List.getD_eq_getElem?_getD, List.getElem?_eq_getElem hi, List.getElem?_eq_getElem hi2]
theorem fit_zip {d e : Nat} {f : Int → Int → Int} {l r : List Int} (hl : FitAll d l) (hr : FitAll d r) (hf : ∀ x y : Int, -(2 ^ (d - 1)) ≤ x → x < 2 ^ (d - 1) → -(2 ^ (d - 1)) ≤ y → y < 2 ^ (d - 1) → -(2 ^ (e - 1)) ≤ f x y ∧ f x y < 2 ^ (e - 1)) : FitAll e (List.zipWith f l r) := by
  intro z hz
  obtain ⟨i, hi, rfl⟩ := List.getElem_of_mem hz
  rw [List.length_zipWith] at hi
  rw [List.getElem_zipWith]
  obtain ⟨a1, a2⟩ := hl _ (List.getElem_mem (show i < l.length by omega))
  obtain ⟨b1, b2⟩ := hr _ (List.getElem_mem (show i < r.length by omega))
  exact hf _ _ a1 a2 b1 b2
theorem fit_side {d : Nat} {l r : List Int} (hd : 1 ≤ d) (hl : FitAll d l) (hr : FitAll d r) : FitAll (d + 1) (Sound.side l r) := fit_zip hl hr fun x y a1 a2 b1 b2 => by
  have e : (2 : Int) ^ (d + 1 - 1) = 2 * 2 ^ (d - 1) := by rw [← Int.pow_succ']; congr 1; omega
  rw [e]; omega
theorem fit_mid {d : Nat} {l r : List Int} (hl : FitAll d l) (hr : FitAll d r) : FitAll d (Sound.middle l r) := fit_zip hl hr fun x y a1 a2 b1 b2 => by
  rw [Int.fdiv_eq_ediv_of_nonneg _ (by decide)]; omega
theorem mk_pair {H : Hp} {Qf : Hp → Prop} {p x dx a1 a2 : Addr} {d1 d2 : PWd} (m : Nat) (hp : H p = none) (hx : upd H p (.lst [.ref a1, .ref a2]) x = none) (hdx : upd H p (.lst [.ref a1, .ref a2]) dx = none) (h1 : IsPart K A H a1 d1) (h2 : IsPart K A H a2 d2)
    (k : ∀ H', Same H H' → IsPair K A H' x m d1 d2 → Qf H') : spPairI K A [.ref x, .int m, .ref p] (upd (upd (upd H p (.lst [.ref a1, .ref a2])) dx (.own x)) x (.ins A.c_PairWay dx [])) (fun v H2 => v = .non ∧ Qf H2) E0 := by
  have s1 : Same H (upd H p (.lst [.ref a1, .ref a2])) := same_new hp
  have s2 : Same (upd H p (.lst [.ref a1, .ref a2])) (upd (upd (upd H p (.lst [.ref a1, .ref a2])) dx (.own x)) x (.ins A.c_PairWay dx [])) := same_made hx hdx
  refine ⟨x, dx, p, a1, a2, m, d1, d2, rfl, upd_same, s2 _ _ upd_same, (h1.same s1).same s2, (h2.same s1).same s2, fun H' hb hx' => ⟨rfl, ?_⟩⟩
  have s3 : Same (upd H p (.lst [.ref a1, .ref a2])) H' := Same.made hx hdx hb
  exact k H' (s1.trans s3) ⟨dx, p, a1, a2, hx', s3 _ _ upd_same, (h1.same s1).same s3, (h2.same s1).same s3⟩
abbrev PairD := Nat × PWd × PWd
def pbits (q : PairD) : Nat := q.2.1.bits + q.2.2.bits
def keepP (l q : PairD) : PairD := if pbits q < pbits l then q else l
def others (d o : Nat) (L R : List Int) : List PairD := [(1, leastPartD d o L, leastPartD (d + 1) o (Sound.side L R)), (2, leastPartD (d + 1) o (Sound.side L R), leastPartD d o R), (3, leastPartD d o (Sound.middle L R), leastPartD (d + 1) o (Sound.side L R))]
def pairD (d o : Nat) (L R : List Int) : PairD := (others d o L R).foldl keepP (0, leastPartD d o L, leastPartD d o R)
def spLPair (K : PySem.W.Frag) (A : Adr) : Sp := fun vs H Q _ => ∃ (f l r : Addr) (c d b o : Nat) (L R : List Int), vs = [.ref f, .ref l, .ref r] ∧ IsForm A.c_Form H f c d b o ∧ SqL K H l (L.map V.int) ∧ SqL K H r (R.map V.int) ∧ (L.length = R.length ∧ 1 ≤ L.length ∧ L.length ≤ 1024) ∧ (4 ≤ d ∧ d ≤ 24 ∧ o ≤ 4) ∧ FitAll d L ∧ FitAll d R ∧
  ∀ x H', Same H H' → IsPair K A H' x (pairD d o L R).1 (pairD d o L R).2.1 (pairD d o L R).2.2 → Q (.ref x) H'
theorem sc_least_pair : FnScope ["form", "left", "right", "a", "b", "s", "m", "least", "way", "x", "y"] ["form", "left", "right"] (defScope s_least_pair) := ⟨rfl, rfl, rfl, by decide +kernel, rfl, by decide +kernel, by decide +kernel⟩
theorem ok_least_pair (T : Txt K mg A) : FnOk P w K mg base CX0 8 A.f_least_pair A.d_least_pair ["form", "left", "right"] (spLPair K A) := by
  refine T.F_least_pair.ok sc_least_pair (fun vs H Q E h => ?_) (fun cdv Ar outer s H vs Q E hr h => ?_)
  · obtain ⟨f, l, r, c, d, b, o, L, R, rfl, _⟩ := h
    rfl
  · obtain ⟨f, l, r, c, d, b, o, L, R, rfl, hF, hl, hr', ⟨hlr, hl1, hl2⟩, ⟨hd1, hd2, ho⟩, fL, fR, k⟩ := h
    have hr2 : Room 2 _ := hr.mono (by decide)
    refine ⟨_, pss_cons (ps_set (i := 3) sc_least_pair.nd rfl (Or.inl rfl) (pe_call (ok_least_part T) hr rfl T.m_least_part T.F_least_part.kp T.b_least_part .nil pass0 (pa_cons (pe_fld (pv 0) rfl) (pa_cons (pe_fld (pv 0) rfl) (pa_cons (pv 1) pa_nil)))))
      (pss_cons (ps_set (i := 4) sc_least_pair.nd rfl (Or.inl rfl) (pe_call (ok_least_part T) hr rfl T.m_least_part T.F_least_part.kp T.b_least_part .nil pass0 (pa_cons (pe_fld (pv 0) rfl) (pa_cons (pe_fld (pv 0) rfl) (pa_cons (pv 2) pa_nil)))))
      (pss_cons (ps_set (i := 5) sc_least_pair.nd rfl (Or.inl rfl) (pe_call (ok_least_part T) hr rfl T.m_least_part T.F_least_part.kp T.b_least_part .nil pass0 (pa_cons (pe_op op_add (pe_fld (pv 0) rfl) pe_int) (pa_cons (pe_fld (pv 0) rfl) (pa_cons (pe_lc (own := [("x", 9), ("y", 10)]) rfl sc_least_pair.nd (pi_zip rfl T.z_zip (pa_cons (pv 1) (pa_cons (pv 2) pa_nil))) (blkOk_by (by kernel_rfl))
        (fun _ _ _ _ _ => pgtK (K := K) (n := 2) rfl rfl (pgs_cons (pg_name (i := 9) sc_least_pair.nd rfl (Or.inl rfl)) (pgs_cons (pg_name (i := 10) sc_least_pair.nd rfl (Or.inl rfl)) pgs_nil))) (fun _ _ _ _ _ => pts_nil) (fun _ _ _ _ _ => pe_op op_sub (pv 9) (pv 10))) pa_nil)))))
      (pss_cons (ps_set (i := 6) sc_least_pair.nd rfl (Or.inl rfl) (pe_call (ok_least_part T) hr rfl T.m_least_part T.F_least_part.kp T.b_least_part .nil pass0 (pa_cons (pe_fld (pv 0) rfl) (pa_cons (pe_fld (pv 0) rfl) (pa_cons (pe_lc (own := [("x", 9), ("y", 10)]) rfl sc_least_pair.nd (pi_zip rfl T.z_zip (pa_cons (pv 1) (pa_cons (pv 2) pa_nil))) (blkOk_by (by kernel_rfl))
        (fun _ _ _ _ _ => pgtK (K := K) (n := 2) rfl rfl (pgs_cons (pg_name (i := 9) sc_least_pair.nd rfl (Or.inl rfl)) (pgs_cons (pg_name (i := 10) sc_least_pair.nd rfl (Or.inl rfl)) pgs_nil))) (fun _ _ _ _ _ => pts_nil) (fun _ _ _ _ _ => pe_op op_shr (pe_op op_add (pv 9) (pv 10)) pe_int)) pa_nil)))))
      (pss_cons (ps_set (i := 7) sc_least_pair.nd rfl (Or.inl rfl) (pe_make T.k_PairWay (ok_PairWay_init T) hr2 rfl T.m_PairWay T.b_PairWay_init .nil pass0 (pa_cons pe_int (pa_cons (pe_lst (pa_cons (pv 3) (pa_cons (pv 4) pa_nil))) pa_nil))))
      (pss_cons (ps_for PassesOwn.never rfl (pi_list (pe_lst (pa_cons (pe_make T.k_PairWay (ok_PairWay_init T) hr2 rfl T.m_PairWay T.b_PairWay_init .nil pass0 (pa_cons pe_int (pa_cons (pe_lst (pa_cons (pv 3) (pa_cons (pv 5) pa_nil))) pa_nil)))
          (pa_cons (pe_make T.k_PairWay (ok_PairWay_init T) hr2 rfl T.m_PairWay T.b_PairWay_init .nil pass0 (pa_cons pe_int (pa_cons (pe_lst (pa_cons (pv 5) (pa_cons (pv 4) pa_nil))) pa_nil)))
          (pa_cons (pe_make T.k_PairWay (ok_PairWay_init T) hr2 rfl T.m_PairWay T.b_PairWay_init .nil pass0 (pa_cons pe_int (pa_cons (pe_lst (pa_cons (pv 6) (pa_cons (pv 5) pa_nil))) pa_nil))) pa_nil))))) (pg_name (i := 8) sc_least_pair.nd rfl (Or.inl rfl))
        (pss_one (ps_if (pt_cmpR op_lt (pe_fld (pv 8) rfl) (pe_fld (pv 7) rfl) (nomark _)) (pss_one (ps_set (i := 7) sc_least_pair.nd rfl (Or.inl rfl) (pv 8))) pss_nil)))
      (pss_one (ps_ret (pv 7)))))))), ?_⟩
    obtain ⟨dF, gF, sF, hf⟩ := id hF
    refine ⟨_, rfl, f, A.c_Form, dF, _, _, rfl, hf, T.l_Form, T.n_Form_depth, rfl, _, rfl, f, A.c_Form, dF, _, _, rfl, hf, T.l_Form, T.n_Form_order, rfl, _, rfl, d, o, l, L, rfl, hl, ⟨by omega, by omega, ho⟩, fL, ⟨hl1, hl2⟩, fun xa H1 s1 hPa => ?_⟩
    have hf1 := s1 _ _ hf
    refine ⟨_, rfl, f, A.c_Form, dF, _, _, rfl, hf1, T.l_Form, T.n_Form_depth, rfl, _, rfl, f, A.c_Form, dF, _, _, rfl, hf1, T.l_Form, T.n_Form_order, rfl, _, rfl, d, o, r, R, rfl, s1.seq hr', ⟨by omega, by omega, ho⟩, fR, ⟨by omega, by omega⟩, fun xb H2 s2 hPb => ?_⟩
    have hf2 := s2 _ _ hf1
    have s12 := s1.trans s2
    have hlB := s12.seq hl
    have hrB := s12.seq hr'
    have hsl : (Sound.side L R).length = L.length := by unfold Sound.side; rw [List.length_zipWith]; omega
    have hml : (Sound.middle L R).length = L.length := by unfold Sound.middle; rw [List.length_zipWith]; omega
    refine ⟨_, rfl, f, A.c_Form, dF, _, _, rfl, hf2, T.l_Form, T.n_Form_depth, rfl, _, _, rfl, rfl, _, rfl, f, A.c_Form, dF, _, _, rfl, hf2, T.l_Form, T.n_Form_order, rfl, _, rfl, _, rfl, l, r, _, _, rfl, hlB, hrB, fun D hD => ?_⟩
    refine lc_val (J := Itz K l r) hD L.length (by rw [sizeLine_eq]; omega) (fun i => .int (L.getD i 0 - R.getD i 0))
      (fun i Hh hi t1 => ⟨_, _, _, _, t1.seq hlB, t1.seq hrB, int_get hi, int_get (by omega)⟩) (fun Hh t1 => ⟨_, _, t1.seq hlB, t1.seq hrB, .inl (by simp)⟩) ?_ ?_
    · rintro i Hh z H' hi t1 ⟨t, x1, y1, rfl, ht, rfl, hx, hy⟩ C hC
      obtain ⟨rfl, _⟩ := map_int_get (hx _ (t1.seq hlB))
      obtain ⟨rfl, _⟩ := map_int_get (hy _ (t1.seq hrB))
      have st : Same Hh (upd Hh t (.tup [V.int (L.getD i 0), V.int (R.getD i 0)])) := same_new ht
      refine ⟨t, _, rfl, SqT.of upd_same, rfl, _, _, rfl, _, _, rfl, rfl, rfl, ?_⟩
      exact ⟨_, rfl, _, rfl, _, _, rfl, rfl, hC _ st⟩
    intro H3 s3 hx3
    rw [zip_get (f := fun x y => x - y) L R hlr] at hx3
    have hx3 : H3 D = some (.lst ((Sound.side L R).map V.int)) := hx3
    refine ⟨d + 1, o, D, Sound.side L R, rfl, SqL.of hx3, ⟨by omega, by omega, ho⟩, fit_side (by omega) fL fR, ⟨by omega, by omega⟩, fun xs H4 s4 hPs => ?_⟩
    have s34 := s3.trans s4
    have hf4 := s34 _ _ hf2
    have hlD := s34.seq hlB
    have hrD := s34.seq hrB
    refine ⟨_, rfl, f, A.c_Form, dF, _, _, rfl, hf4, T.l_Form, T.n_Form_depth, rfl, _, rfl, f, A.c_Form, dF, _, _, rfl, hf4, T.l_Form, T.n_Form_order, rfl, _, rfl, _, rfl, l, r, _, _, rfl, hlD, hrD, fun D2 hD2 => ?_⟩
    refine lc_val (J := Itz K l r) hD2 L.length (by rw [sizeLine_eq]; omega) (fun i => .int ((L.getD i 0 + R.getD i 0).fdiv 2))
      (fun i Hh hi t1 => ⟨_, _, _, _, t1.seq hlD, t1.seq hrD, int_get hi, int_get (by omega)⟩) (fun Hh t1 => ⟨_, _, t1.seq hlD, t1.seq hrD, .inl (by simp)⟩) ?_ ?_
    · rintro i Hh z H' hi t1 ⟨t, x1, y1, rfl, ht, rfl, hx, hy⟩ C hC
      obtain ⟨rfl, _⟩ := map_int_get (hx _ (t1.seq hlD))
      obtain ⟨rfl, _⟩ := map_int_get (hy _ (t1.seq hrD))
      have st : Same Hh (upd Hh t (.tup [V.int (L.getD i 0), V.int (R.getD i 0)])) := same_new ht
      refine ⟨t, _, rfl, SqT.of upd_same, rfl, _, _, rfl, _, _, rfl, rfl, rfl, ?_⟩
      refine ⟨_, rfl, _, rfl, _, _, rfl, rfl, _, _, rfl, rfl, (by omega), ?_⟩
      have e := hC _ st
      rw [Int.fdiv_eq_ediv_of_nonneg _ (by decide)] at e
      exact e
    intro H5 s5 hx5
    rw [zip_get (f := fun x y => (x + y).fdiv 2) L R hlr] at hx5
    have hx5 : H5 D2 = some (.lst ((Sound.middle L R).map V.int)) := hx5
    refine ⟨d, o, D2, Sound.middle L R, rfl, SqL.of hx5, ⟨by omega, by omega, ho⟩, fit_mid fL fR, ⟨by omega, by omega⟩, fun xm H6 s6 hPm => ?_⟩
    have s56 := s5.trans s6
    have s26 := s34.trans s56
    have hPa6 := (hPa.same s2).same s26
    have hPb6 := hPb.same s26
    have hPs6 := hPs.same s56
    have s06 := s12.trans s26
    unfold pairD others at k
    generalize leastPartD d o L = pa at *
    generalize leastPartD d o R = pb at *
    generalize leastPartD (d + 1) o (Sound.side L R) = ps at *
    generalize leastPartD d o (Sound.middle L R) = pm at *
    refine ⟨_, rfl, _, rfl, (by show 2 ≤ sizeLine; decide), fun p0 hp0 x0 dx0 hx0 hdx0 _ => mk_pair 0 hp0 hx0 hdx0 hPa6 hPb6 fun H7 s7 hP0 => ?_⟩
    refine ⟨_, rfl, _, rfl, (by show 2 ≤ sizeLine; decide), fun p1 hp1 x1 dx1 hx1 hdx1 _ => mk_pair 1 hp1 hx1 hdx1 (hPa6.same s7) (hPs6.same s7) fun H8 s8 hP1 => ?_⟩
    have s78 := s7.trans s8
    refine ⟨_, rfl, _, rfl, (by show 2 ≤ sizeLine; decide), fun p2 hp2 x2 dx2 hx2 hdx2 _ => mk_pair 2 hp2 hx2 hdx2 (hPs6.same s78) (hPb6.same s78) fun H9 s9 hP2 => ?_⟩
    have s79 := s78.trans s9
    refine ⟨_, rfl, _, rfl, (by show 2 ≤ sizeLine; decide), fun p3 hp3 x3 dx3 hx3 hdx3 _ => mk_pair 3 hp3 hx3 hdx3 (hPm.same s79) (hPs6.same s79) fun H10 s10 hP3 => ?_⟩
    refine ⟨by rw [sizeLine_eq]; show 3 ≤ _; omega, fun pl hpl => ?_⟩
    have s11 : Same H10 (upd H10 pl (.lst [.ref x1, .ref x2, .ref x3])) := same_new hpl
    have hP0' := ((hP0.same s8).same s9).same (s10.trans s11)
    have hP1' := (hP1.same s9).same (s10.trans s11)
    have hP2' := hP2.same (s10.trans s11)
    have hP3' := hP3.same s11
    have s611 := (s79.trans s10).trans s11
    have hpl' : upd H10 pl (.lst [.ref x1, .ref x2, .ref x3]) pl = some (.lst [.ref x1, .ref x2, .ref x3]) := upd_same
    generalize upd H10 pl (.lst [.ref x1, .ref x2, .ref x3]) = H11 at *
    refine ⟨pl, rfl, ⟨_, SqL.of hpl'⟩, ?_⟩
    refine for_list (K := K) (a := pl) (xs := [.ref x1, .ref x2, .ref x3]) (fun i σ H' => H' = H11 ∧ ∃ (xl : Addr) (v8 v9 v10 : Option V), σ = [some (.ref f), some (.ref l), some (.ref r), some (.ref xa), some (.ref xb), some (.ref xs), some (.ref xm), some (.ref xl), v8, v9, v10] ∧
        ∃ q : PairD, q = (([(1, pa, ps), (2, ps, pb), (3, pm, ps)] : List PairD).take i).foldl keepP (0, pa, pb) ∧ IsPair K A H11 xl q.1 q.2.1 q.2.2)
      ⟨rfl, x0, none, none, none, rfl, _, rfl, hP0'⟩ (fun i σ H' _ ⟨e, _⟩ => by rw [e]; exact SqL.of hpl') ?_ ?_
    · rintro i x σ H' hi ⟨rfl, xl, v8, v9, v10, rfl, q, hq, hPq⟩
      have hi3 : i < 3 := (List.getElem?_eq_some_iff.mp hi).1
      have key : ∃ (xw : Addr) (q' : PairD), x = .ref xw ∧ IsPair K A H' xw q'.1 q'.2.1 q'.2.2 ∧ (([(1, pa, ps), (2, ps, pb), (3, pm, ps)] : List PairD).take (i + 1)).foldl keepP (0, pa, pb) = keepP q q' := by
        rcases (by omega : i = 0 ∨ i = 1 ∨ i = 2) with rfl | rfl | rfl
        · exact ⟨x1, (1, pa, ps), (Option.some.inj hi).symm, hP1', by rw [hq]; rfl⟩
        · exact ⟨x2, (2, ps, pb), (Option.some.inj hi).symm, hP2', by rw [hq]; rfl⟩
        · exact ⟨x3, (3, pm, ps), (Option.some.inj hi).symm, hP3', by rw [hq]; rfl⟩
      obtain ⟨xw, q', rfl, hPw, hnx⟩ := key
      obtain ⟨e1, p1, a1, b1, hw1, _⟩ := id hPw
      obtain ⟨e2, p2, a2, b2, hw2, _⟩ := id hPq
      refine ⟨_, rfl, xw, A.c_PairWay, e1, _, _, rfl, hw1, T.l_PairWay, T.n_PairWay_bits, rfl, _, rfl, xl, A.c_PairWay, e2, _, _, rfl, hw2, T.l_PairWay, T.n_PairWay_bits, rfl, _, _, rfl, rfl, _, rfl, ?_⟩
      refine ite2 (fun hlt => ?_) fun hlt => ?_
      · have hlt : ((pbits q' : Nat) : Int) < (pbits q : Nat) := of_decide_eq_true hlt
        refine ⟨_, rfl, rfl, xw, _, _, _, rfl, q', ?_, hPw⟩
        rw [hnx]
        unfold keepP
        rw [if_pos (by omega)]
      · have hlt : ¬ ((pbits q' : Nat) : Int) < (pbits q : Nat) := fun zz => hlt (decide_eq_true zz)
        refine ⟨rfl, xl, _, _, _, rfl, q, ?_, hPq⟩
        rw [hnx]
        unfold keepP
        rw [if_neg (by omega)]
    · rintro σ H' ⟨rfl, xl, v8, v9, v10, rfl, q, hq, hPq⟩
      refine ⟨_, rfl, k xl _ (s06.trans s611) ?_⟩
      have e : ([(1, pa, ps), (2, ps, pb), (3, pm, ps)] : List PairD).foldl keepP (0, pa, pb) = q := by rw [hq]; rfl
      rw [e]
      exact hPq
theorem IsGW.ext {Cg : Addr} {H H' : Hp} {D gx : Addr} {φ : Heap → Prop} {g : GW} (hD : H D = some (.ext φ)) (hb : But D H H') (hg : IsGW Cg H gx g) : IsGW Cg H' gx g := by
  obtain ⟨dx, h⟩ := hg
  exact ⟨dx, hb _ _ h (ne_of h hD (by intro e; cases e))⟩
theorem sq_ext {H H' : Hp} {D q : Addr} {φ : Heap → Prop} {xs : List V} (hD : H D = some (.ext φ)) (hb : But D H H') (h : SqL K H q xs) : SqL K H' q xs := by
  rcases h with (h | ⟨ob, h⟩) | h
  · exact .inl (.inl (hb _ _ h (ne_of h hD (by intro e; cases e))))
  · exact .inl (.inr ⟨ob, hb _ _ h (ne_of h hD (by intro e; cases e))⟩)
  · exact .inr h
theorem IsShrunk.ext {Cs : Addr} {H H' : Hp} {D sx : Addr} {φ : Heap → Prop} {wd z : Nat} {y : List Int} (hD : H D = some (.ext φ)) (hb : But D H H') (h : IsShrunk K Cs H sx wd z y) : IsShrunk K Cs H' sx wd z y := by
  obtain ⟨d, l, h1, h2⟩ := h
  exact ⟨d, l, hb _ _ h1 (ne_of h1 hD (by intro e; cases e)), sq_ext hD hb h2⟩
theorem IsGuess.ext {Cs : Addr} {H H' : Hp} {D gx : Addr} {φ : Heap → Prop} {a : List Int} {h : Nat} (hD : H D = some (.ext φ)) (hb : But D H H') (hg : IsGuess K Cs H gx a h) : IsGuess K Cs H' gx a h := by
  obtain ⟨d, l, h1, h2⟩ := hg
  exact ⟨d, l, hb _ _ h1 (ne_of h1 hD (by intro e; cases e)), sq_ext hD hb h2⟩
theorem IsRW.ext {Cr Cg : Addr} {H H' : Hp} {D rx : Addr} {φ : Heap → Prop} {q : RW} (hD : H D = some (.ext φ)) (hb : But D H H') (h : IsRW K Cr Cg H rx q) : IsRW K Cr Cg H' rx q := by
  obtain ⟨d, p, h1, as, h2, h3, h4⟩ := h
  exact ⟨d, p, hb _ _ h1 (ne_of h1 hD (by intro e; cases e)), as, hb _ _ h2 (ne_of h2 hD (by intro e; cases e)), h3, fun k a g e1 e2 => (h4 k a g e1 e2).ext hD hb⟩
theorem IsPart.ext {H H' : Hp} {D px : Addr} {φ : Heap → Prop} {d : PWd} (hD : H D = some (.ext φ)) (hb : But D H H') (h : IsPart K A H px d) : IsPart K A H' px d := by
  obtain ⟨dx, sx, gv, rv, h1, h2, h3⟩ := h
  refine ⟨dx, sx, gv, rv, hb _ _ h1 (ne_of h1 hD (by intro e; cases e)), h2.ext hD hb, fun hk => ?_⟩
  obtain ⟨gx, rx, e1, e2, h4, h5⟩ := h3 hk
  exact ⟨gx, rx, e1, e2, h4.ext hD hb, h5.ext hD hb⟩
theorem IsPair.ext {H H' : Hp} {D x : Addr} {φ : Heap → Prop} {m : Nat} {d1 d2 : PWd} (hD : H D = some (.ext φ)) (hb : But D H H') (h : IsPair K A H x m d1 d2) : IsPair K A H' x m d1 d2 := by
  obtain ⟨dx, p, a1, a2, h1, h2, h3, h4⟩ := h
  exact ⟨dx, p, a1, a2, hb _ _ h1 (ne_of h1 hD (by intro e; cases e)), hb _ _ h2 (ne_of h2 hD (by intro e; cases e)), h3.ext hD hb, h4.ext hD hb⟩
theorem IsPair.but {C : Addr} {H H' : Hp} {x px : Addr} {b : Sound.Bits} {m : Nat} {d1 d2 : PWd} (hw : IsWr C H x b) (hb : But x H H') (h : IsPair K A H px m d1 d2) : IsPair K A H' px m d1 d2 := by
  obtain ⟨dx, p, a1, a2, h1, h2, h3, h4⟩ := h
  obtain ⟨dw, hx⟩ := id hw
  exact ⟨dx, p, a1, a2, hb _ _ h1 (hw.ne h1 rfl), hb _ _ h2 (ne_of h2 hx (by intro e; cases e)), h3.but hw hb, h4.but hw hb⟩
theorem but_hide (D : Addr) (H : Hp) : But D H (hide D H) := fun b o h hb => by rw [hide_ne hb]; exact h
theorem same_unmask {H H' : Hp} {D : Addr} {xs : List V} {φ : Heap → Prop} (h : H D = some (.lst xs)) (s : Same (upd H D (.ext φ)) H') : Same H (upd H' D (.lst xs)) := fun b o e => by
  by_cases hb : b = D
  · subst hb
    rw [h] at e
    rw [upd_same]; exact e
  · rw [upd_ne hb]
    exact s b o (by rw [upd_ne hb]; exact e)
theorem rng_up2 {c : Nat} (h1 : 1 ≤ c) (h4 : c ≤ 4) : RgC 0 ((c : Int) - 1) 2 (c / 2) := by
  rcases (by omega : c = 1 ∨ c = 2 ∨ c = 3 ∨ c = 4) with rfl | rfl | rfl | rfl
  · exact ⟨by decide, by decide, by decide, by decide⟩
  · exact ⟨by decide, by decide, by decide, by decide⟩
  · exact ⟨by decide, by decide, by decide, by decide⟩
  · exact ⟨by decide, by decide, by decide, by decide⟩
def pairAt (d o : Nat) (chs : List (List Int)) (i : Nat) : PairD := pairD d o (chs.getD (2 * i) []) (chs.getD (2 * i + 1) [])
def IsCh (K : PySem.W.Frag) (H : Hp) (q : Addr) (d n : Nat) (chs : List (List Int)) : Prop := ∃ as : List Addr, SqL K H q (as.map V.ref) ∧ as.length = chs.length ∧ ∀ (i : Nat) (a : Addr) (ch : List Int), as[i]? = some a → chs[i]? = some ch → SqL K H a (ch.map V.int) ∧ ch.length = n ∧ FitAll d ch
theorem IsCh.same {H H' : Hp} {q : Addr} {d n : Nat} {chs : List (List Int)} (s : Same H H') (h : IsCh K H q d n chs) : IsCh K H' q d n chs := by
  obtain ⟨as, h1, h2, h3⟩ := h
  exact ⟨as, s.seq h1, h2, fun i a ch e1 e2 => ⟨s.seq (h3 i a ch e1 e2).1, (h3 i a ch e1 e2).2⟩⟩
theorem IsCh.at {H : Hp} {q : Addr} {d n : Nat} {chs : List (List Int)} (h : IsCh K H q d n chs) {i : Nat} (hi : i < chs.length) : ∃ (as : List Addr) (a : Addr), SqL K H q (as.map V.ref) ∧ (as.map V.ref)[i]? = some (.ref a) ∧ SqL K H a ((chs.getD i []).map V.int) ∧ (chs.getD i []).length = n ∧ FitAll d (chs.getD i []) ∧ as.length = chs.length := by
  obtain ⟨as, h1, h2, h3⟩ := h
  have hi2 : i < as.length := by omega
  refine ⟨as, as[i], h1, by rw [List.getElem?_map, List.getElem?_eq_getElem hi2]; rfl, ?_⟩
  rw [List.getD_eq_getElem?_getD, List.getElem?_eq_getElem hi]
  obtain ⟨x1, x2, x3⟩ := h3 i _ _ (List.getElem?_eq_getElem hi2) (List.getElem?_eq_getElem hi)
  exact ⟨x1, x2, x3, h2⟩
def spLPs (K : PySem.W.Frag) (A : Adr) : Sp := fun vs H Q _ => ∃ (f q : Addr) (c d b o n : Nat) (chs : List (List Int)), vs = [.ref f, .ref q] ∧ IsForm A.c_Form H f c d b o ∧ IsCh K H q d n chs ∧ (chs.length = c ∧ 1 ≤ n ∧ n ≤ 1024) ∧ (1 ≤ c ∧ c ≤ 4) ∧ (4 ≤ d ∧ d ≤ 24 ∧ o ≤ 4) ∧
  ∀ (D : Addr) (bs : List Addr) (H' : Hp), Same H H' → H' D = some (.lst (bs.map V.ref)) → bs.length = c / 2 → (∀ (i : Nat) (x : Addr), bs[i]? = some x → IsPair K A H' x (pairAt d o chs i).1 (pairAt d o chs i).2.1 (pairAt d o chs i).2.2) → Q (.ref D) H'
theorem sc_least_pairs : FnScope ["form", "channels", "c"] ["form", "channels"] (defScope s_least_pairs) := ⟨rfl, rfl, rfl, by decide +kernel, rfl, by decide +kernel, by decide +kernel⟩
theorem ok_least_pairs (T : Txt K mg A) : FnOk P w K mg base CX0 9 A.f_least_pairs A.d_least_pairs ["form", "channels"] (spLPs K A) := by
  refine T.F_least_pairs.ok sc_least_pairs (fun vs H Q E h => ?_) (fun cdv Ar outer s H vs Q E hr h => ?_)
  · obtain ⟨f, q, c, d, b, o, n, chs, rfl, _⟩ := h
    rfl
  · obtain ⟨f, q, c, d, b, o, n, chs, rfl, hF, hC, ⟨hcl, hn1, hn2⟩, ⟨hc1, hc4⟩, ⟨hd1, hd2, ho⟩, k⟩ := h
    refine ⟨_, pss_one (ps_ret (pe_lc (own := [("c", 2)]) rfl sc_least_pairs.nd (pi_range3 rfl T.z_range (pa_cons pe_int (pa_cons (pe_op op_sub (pe_fld (pv 0) rfl) pe_int) (pa_cons pe_int pa_nil)))) (blkOk_by (by kernel_rfl))
      (fun _ _ _ _ _ => pg_name (i := 2) sc_least_pairs.nd rfl (Or.inl rfl)) (fun _ _ _ _ _ => pts_nil)
      (fun _ _ _ _ _ => pe_mask (pe_call (ok_least_pair T) hr rfl T.m_least_pair T.F_least_pair.kp T.b_least_pair .nil pass0 (pa_cons (pv 0) (pa_cons (pe_ix (ixL (K := K) rfl) (pv 1) (pv 2) (fun _ _ => rfl)) (pa_cons (pe_ix (ixL (K := K) rfl) (pv 1) (pe_op op_add (pv 2) pe_int) (fun _ _ => rfl)) pa_nil))))))), ?_⟩
    obtain ⟨dF, gF, sF, hf⟩ := id hF
    refine ⟨_, rfl, f, A.c_Form, dF, _, _, rfl, hf, T.l_Form, T.n_Form_channels, rfl, _, _, rfl, rfl, 0, (c : Int) - 1, 2, c / 2, rfl, rng_up2 hc1 hc4, fun D hD => ?_⟩
    refine lc_rel (J := Itc 0 2 (c / 2)) hD (c / 2) (by rw [sizeLine_eq]; omega) (fun i v Hq => ∃ x, v = .ref x ∧ IsPair K A Hq x (pairAt d o chs i).1 (pairAt d o chs i).2.1 (pairAt d o chs i).2.2) (fun i v H1 H2 _ ss ⟨x, a1, a2⟩ => ⟨x, a1, a2.same ss⟩)
      (fun i Hh hi s1 => hi) (fun Hh s1 => Nat.le_refl _) ?_ ?_
    · rintro i Hh z H' hi s1 ⟨acc, hacc⟩ ⟨rfl, rfl⟩ C hC'
      have e1 : (0 : Int) + (i : Nat) * 2 = ((2 * i : Nat) : Int) := by omega
      rw [e1]
      refine ⟨rfl, D, acc, hacc, fun φ => ?_⟩
      have s2 : Same H (upd H' D (.ext φ)) := same_keep s1 hD
      obtain ⟨as, a, g1, g2, g3, g4, g5, _⟩ := (hC.same s2).at (i := 2 * i) (by omega)
      obtain ⟨bs, b2, f1, f2, f3, f4, f5, _⟩ := (hC.same s2).at (i := 2 * i + 1) (by omega)
      refine ⟨_, rfl, _, rfl, _, rfl, q, _, _, _, rfl, rfl, g1, atI_nat (j := 2 * i) g2, _, rfl, _, rfl, _, _, rfl, rfl, q, _, _, _, rfl, rfl, f1, atI_nat (j := 2 * i + 1) f2, f, a, b2, c, d, b, o, _, _, rfl, hF.same s2, g3, f3, ⟨by omega, by omega, by omega⟩, ⟨hd1, hd2, ho⟩, g5, f5, fun x H6 s6 hP => ?_⟩
      have hDx : H6 D = some (.ext φ) := s6 _ _ upd_same
      refine ⟨hDx, hC' _ _ (same_unmask hacc s6) ⟨x, rfl, ?_⟩⟩
      rw [hide_upd]
      exact hP.ext hDx (but_hide D H6)
    · intro Hh xs s1 hlen hp hx
      obtain ⟨bs, rfl, _, hbs⟩ := refs_of hp
      exact k D bs Hh s1 hx (by rw [List.length_map] at hlen; exact hlen) hbs
def spFormI (K : PySem.W.Frag) (A : Adr) : Sp := fun vs H Q _ => ∃ (p dx q : Addr) (c d b o g s : Nat), vs = [.ref p, .ref q] ∧ H p = some (.ins A.c_Form dx []) ∧ SqL K H q [.int c, .int d, .int b, .int o, .int g, .int s] ∧
  ∀ H', But p H H' → H' p = some (.ins A.c_Form dx (fmf (.int c) (.int d) (.int b) (.int o) (.int g) (.int s))) → Q .non H'
theorem sc_Form_init : FnScope ["self", "form"] ["self", "form"] (defScope s_Form_init) := ⟨rfl, rfl, rfl, by decide +kernel, rfl, by decide +kernel, by decide +kernel⟩
theorem ok_Form_init (T : Txt K mg A) : FnOk P w K mg base CX0 1 A.f_Form_init A.d_Form_init ["self", "form"] (spFormI K A) := by
  refine T.F_Form_init.ok sc_Form_init (fun vs H Q E h => ?_) (fun cdv Ar outer s H vs Q E hr h => ?_)
  · obtain ⟨p, dx, q, c, d, b, o, g, s, rfl, _⟩ := h
    rfl
  · obtain ⟨p, dx, q, c, d, b, o, g, s, rfl, hp, hq, k⟩ := h
    refine ⟨_, pss_cons (ps_fld (pv 0) (pe_ix ix_list (pv 1) pe_int (fun _ _ => rfl)) rfl) (pss_cons (ps_fld (pv 0) (pe_ix ix_list (pv 1) pe_int (fun _ _ => rfl)) rfl) (pss_cons (ps_fld (pv 0) (pe_ix ix_list (pv 1) pe_int (fun _ _ => rfl)) rfl)
      (pss_cons (ps_fld (pv 0) (pe_ix ix_list (pv 1) pe_int (fun _ _ => rfl)) rfl) (pss_cons (ps_fld (pv 0) (pe_ix ix_list (pv 1) pe_int (fun _ _ => rfl)) rfl) (pss_one (ps_fld (pv 0) (pe_ix ix_list (pv 1) pe_int (fun _ _ => rfl)) rfl)))))), ?_⟩
    have sq : ∀ fs, SqL K (upd H p (.ins A.c_Form dx fs)) q [.int c, .int d, .int b, .int o, .int g, .int s] := fun fs => by
      rcases hq with (h | ⟨ob, h⟩) | h
      · exact .inl (.inl (by rw [upd_ne (ne_of h hp (by intro e; cases e))]; exact h))
      · exact .inl (.inr ⟨ob, by rw [upd_ne (ne_of h hp (by intro e; cases e))]; exact h⟩)
      · exact .inr h
    refine ⟨_, rfl, q, _, _, _, rfl, rfl, hq, atI_nat (j := 0) rfl, _, rfl, p, A.c_Form, dx, [], rfl, hp, T.l_Form, T.n_Form_channels, (by show 0 < 1000; decide), ?_⟩
    refine ⟨_, rfl, q, _, _, _, rfl, rfl, sq _, atI_nat (j := 1) rfl, _, rfl, p, A.c_Form, dx, _, rfl, upd_same, T.l_Form, T.n_Form_depth, (by show 1 < 1000; decide), ?_⟩
    rw [upd_upd]
    refine ⟨_, rfl, q, _, _, _, rfl, rfl, sq _, atI_nat (j := 2) rfl, _, rfl, p, A.c_Form, dx, _, rfl, upd_same, T.l_Form, T.n_Form_block, (by show 2 < 1000; decide), ?_⟩
    rw [upd_upd]
    refine ⟨_, rfl, q, _, _, _, rfl, rfl, sq _, atI_nat (j := 3) rfl, _, rfl, p, A.c_Form, dx, _, rfl, upd_same, T.l_Form, T.n_Form_order, (by show 3 < 1000; decide), ?_⟩
    rw [upd_upd]
    refine ⟨_, rfl, q, _, _, _, rfl, rfl, sq _, atI_nat (j := 4) rfl, _, rfl, p, A.c_Form, dx, _, rfl, upd_same, T.l_Form, T.n_Form_group, (by show 4 < 1000; decide), ?_⟩
    rw [upd_upd]
    refine ⟨_, rfl, q, _, _, _, rfl, rfl, sq _, atI_nat (j := 5) rfl, _, rfl, p, A.c_Form, dx, _, rfl, upd_same, T.l_Form, T.n_Form_spare, (by show 5 < 1000; decide), ?_⟩
    rw [upd_upd]
    exact k _ But.upd upd_same
def RLo : List Nat := [1, 4, 16, 0, 1, 0]
def RHi : List Nat := [4, 24, 256, 4, 8, 4]
def rgOk (i z : Nat) : Bool := decide (((RLo.getD i 0 : Nat) : Int) ≤ (z : Nat)) && decide ((z : Int) ≤ (RHi.getD i 0 : Nat))
theorem rng_at (T : Txt K mg A) {i : Nat} (hi : i < 6) : ∃ b, ([V.ref A.a_RANGES_0, V.ref A.a_RANGES_1, V.ref A.a_RANGES_2, V.ref A.a_RANGES_3, V.ref A.a_RANGES_4, V.ref A.a_RANGES_5] : List V)[i]? = some (.ref b) ∧ ∀ H, SqT K H b [V.int ((RLo.getD i 0 : Nat) : Int), V.int ((RHi.getD i 0 : Nat) : Int)] := by
  rcases (by omega : i = 0 ∨ i = 1 ∨ i = 2 ∨ i = 3 ∨ i = 4 ∨ i = 5) with rfl | rfl | rfl | rfl | rfl | rfl
  · exact ⟨_, rfl, T.q_RANGES_0⟩
  · exact ⟨_, rfl, T.q_RANGES_1⟩
  · exact ⟨_, rfl, T.q_RANGES_2⟩
  · exact ⟨_, rfl, T.q_RANGES_3⟩
  · exact ⟨_, rfl, T.q_RANGES_4⟩
  · exact ⟨_, rfl, T.q_RANGES_5⟩
theorem form_none {fm : List Nat} (h : ¬ fm.length = 6) : (Sound.formOf fm).isSome = false := by
  unfold Sound.formOf
  split
  · exact absurd rfl h
  · rfl
theorem form_all {fm : List Nat} (h : fm.length = 6) : ((List.range 6).map fun i => rgOk i (fm.getD i 0)).all id = (Sound.formOf fm).isSome := by
  match fm, h with
  | [c, d, b, o, g, p], _ =>
    rw [show List.range 6 = [0, 1, 2, 3, 4, 5] from rfl]
    have e : (Sound.formOf [c, d, b, o, g, p]).isSome = (Sound.Form.mk c d b o g p).ok := by
      unfold Sound.formOf
      simp only
      cases (Sound.Form.mk c d b o g p).ok <;> rfl
    rw [e, Bool.eq_iff_iff]
    unfold Sound.Form.ok
    simp only [List.map_cons, List.map_nil, List.all_cons, List.all_nil, rgOk, RLo, RHi, List.getD_cons_zero, List.getD_cons_succ, id, Bool.and_eq_true, decide_eq_true_eq, and_true]
    omega
def spIsForm (K : PySem.W.Frag) : Sp := fun vs H Q _ => ∃ (q : Addr) (fm : List Nat), vs = [.ref q] ∧ SqL K H q (vN fm) ∧ ∀ H', Same H H' → Q (.bl (Sound.formOf fm).isSome) H'
theorem sc_is_form : FnScope ["form", "number", "bounds"] ["form"] (defScope s_is_form) := ⟨rfl, rfl, rfl, by decide +kernel, rfl, by decide +kernel, by decide +kernel⟩
theorem ok_is_form (T : Txt K mg A) : FnOk P w K mg base CX0 1 A.f_is_form A.d_is_form ["form"] (spIsForm K) := by
  refine T.F_is_form.ok sc_is_form (fun vs H Q E h => ?_) (fun cdv Ar outer s H vs Q E hr h => ?_)
  · obtain ⟨q, fm, rfl, _⟩ := h
    rfl
  · obtain ⟨q, fm, rfl, hq, k⟩ := h
    refine ⟨_, pss_cons (ps_if (pt_cmpR op_ne (pe_callB call_len_seq (by rfl) T.z_len PySem.boot_len (pa_cons (pv 0) pa_nil)) (pe_callB call_len_seq (by rfl) T.z_len PySem.boot_len (pa_cons (pe_gr rfl T.g_RANGES) pa_nil)) (nomark _)) (pss_one (ps_ret pe_bl)) pss_nil)
      (pss_one (ps_ret (pe_callB (cr_all rfl) rfl T.z_all (by decide +kernel : bootBuiltins "all" = some (.builtin "all")) (pa_cons (pe_lc (own := [("number", 1), ("bounds", 2)]) rfl sc_is_form.nd (pi_zipT rfl T.z_zip (pa_cons (pv 0) (pa_cons (pe_gr rfl T.g_RANGES) pa_nil))) (blkOk_by (by kernel_rfl))
        (fun _ _ _ _ _ => pgtK (K := K) (n := 2) rfl rfl (pgs_cons (pg_name (i := 1) sc_is_form.nd rfl (Or.inl rfl)) (pgs_cons (pg_name (i := 2) sc_is_form.nd rfl (Or.inl rfl)) pgs_nil))) (fun _ _ _ _ _ => pts_nil)
        (fun _ _ _ _ _ => pe_chain op_le op_le (pe_ix (ixT (K := K) rfl) (pv 2) pe_int (fun _ _ => rfl)) (pv 1) (pe_ix (ixT (K := K) rfl) (pv 2) pe_int (fun _ _ => rfl)))) pa_nil)))), ?_⟩
    refine ⟨_, rfl, q, _, rfl, .inl hq, A.a_RANGES, _, rfl, .inr (T.q_RANGES _), rfl, _, rfl, ?_⟩
    refine ite2 (fun hne => ?_) fun hne => ?_
    · have h6 : ¬ fm.length = 6 := fun e => by
        have hl : (vN fm).length = 6 := by rw [vN_len, e]
        rw [hl] at hne
        exact absurd hne (show ¬ ((!decide (V.int ((6 : Nat) : Int) = V.int ((6 : Nat) : Int))) = true) by decide)
      have := k H (Same.refl _)
      rw [form_none h6] at this
      exact this
    · have h6 : fm.length = 6 := by
        by_cases e : fm.length = 6
        · exact e
        · exfalso
          apply hne
          rw [Bool.not_eq_true', decide_eq_false_iff_not]
          intro z
          have z := V.int.inj z
          rw [vN_len] at z
          have z : ((fm.length : Nat) : Int) = ((6 : Nat) : Int) := z
          omega
      refine ⟨_, rfl, q, A.a_RANGES, _, _, rfl, hq, T.q_RANGES _, fun D hD => ?_⟩
      refine lc_val (J := Itzt K q A.a_RANGES) hD 6 (by rw [sizeLine_eq]; omega) (fun i => .bl (rgOk i (fm.getD i 0)))
        (fun i Hh hi s1 => by
          obtain ⟨b, hb1, _⟩ := rng_at T hi
          exact ⟨_, _, _, _, s1.seq hq, T.q_RANGES _, vN_get (by omega), hb1⟩) (fun Hh s1 => ⟨_, _, s1.seq hq, T.q_RANGES _, .inl (by rw [vN_len]; omega)⟩) ?_ ?_
      · rintro i Hh z H' hi s1 ⟨t, x1, y1, rfl, ht, rfl, hx, hy⟩ C hC
        obtain ⟨rfl, _⟩ := vN_get' (hx _ (s1.seq hq))
        obtain ⟨b, hb1, hb2⟩ := rng_at T hi
        have e := hy _ (T.q_RANGES _)
        rw [hb1] at e
        cases e
        have st : Same Hh (upd Hh t (.tup [V.int ((fm.getD i 0 : Nat) : Int), V.ref b])) := same_new ht
        refine ⟨t, _, rfl, SqT.of upd_same, rfl, _, _, rfl, _, _, rfl, rfl, rfl, ?_⟩
        refine ⟨_, rfl, b, _, _, _, rfl, rfl, hb2 _, atI_nat (j := 0) rfl, _, rfl, _, _, rfl, rfl, _, rfl, ?_⟩
        have hC := hC _ st
        unfold rgOk at hC
        by_cases c1 : ((RLo.getD i 0 : Nat) : Int) ≤ ((fm.getD i 0 : Nat) : Int)
        · rw [decide_eq_true c1, Bool.true_and] at hC
          rw [decide_eq_true c1]
          exact iteT ⟨_, rfl, b, _, _, _, rfl, rfl, hb2 _, atI_nat (j := 1) rfl, _, _, rfl, rfl, hC⟩
        · rw [decide_eq_false c1, Bool.false_and] at hC
          rw [decide_eq_false c1]
          exact iteF hC
      · intro Hh s1 hx
        refine ⟨D, (List.range 6).map fun i => rgOk i (fm.getD i 0), rfl, SqL.of (hx.trans ?_), ?_⟩
        · rw [List.map_map]; rfl
        · rw [form_all h6]
          exact k _ s1
theorem flt {c i off : Nat} (hi : i < c) (ho : off % c = 0) : ∀ (t : List Int) (j : Nat), j + t.length ≤ c → ((t.zipIdx (off + j)).filter fun (x : Int × Nat) => x.2 % c == i).map (fun (x : Int × Nat) => x.1) = if j ≤ i ∧ i < j + t.length then [t.getD (i - j) 0] else []
  | [], j, _ => by
    rw [if_neg (by rintro ⟨h1, h2⟩; rw [List.length_nil] at h2; omega)]; rfl
  | x :: t, j, hl => by
    rw [List.length_cons] at hl
    have ih := flt hi ho t (j + 1) (by omega)
    have em : (off + j) % c = j := by
      rw [Nat.add_mod, ho, Nat.zero_add, Nat.mod_mod, Nat.mod_eq_of_lt (by omega)]
    rw [List.zipIdx_cons, List.filter_cons]
    simp only [em]
    rw [Nat.add_assoc] 
    by_cases e : j = i
    · subst e
      rw [if_pos (by simp), List.map_cons, ih, if_neg (by omega), if_pos (by rw [List.length_cons]; omega), Nat.sub_self]
      rfl
    · rw [if_neg (by simpa using e), ih]
      by_cases h : j + 1 ≤ i ∧ i < j + 1 + t.length
      · rw [if_pos h, if_pos (by rw [List.length_cons]; omega)]
        rw [show i - j = (i - (j + 1)) + 1 by omega, List.getD_cons_succ]
      · rw [if_neg h, if_neg (by rw [List.length_cons]; omega)]
theorem chan_from {c i : Nat} (hi : i < c) : ∀ (n : Nat) (s : List Int) (off : Nat), s.length = c * n → off % c = 0 → ((s.zipIdx off).filter fun (x : Int × Nat) => x.2 % c == i).map (fun (x : Int × Nat) => x.1) = (List.range n).map fun j => s.getD (i + c * j) 0
  | 0, s, off, hl, _ => by
    have : s = [] := List.eq_nil_of_length_eq_zero (by rw [hl, Nat.mul_zero])
    subst this; rfl
  | n + 1, s, off, hl, ho => by
    have hcn : c * (n + 1) = c * n + c := by rw [Nat.mul_add, Nat.mul_one]
    have hs : s = s.take c ++ s.drop c := (List.take_append_drop c s).symm
    have l1 : (s.take c).length = c := by rw [List.length_take]; omega
    have l2 : (s.drop c).length = c * n := by rw [List.length_drop]; omega
    have h1 := flt (c := c) (i := i) (off := off) hi ho (s.take c) 0 (by omega)
    rw [if_pos (by omega), Nat.add_zero, Nat.sub_zero] at h1
    have h2 := chan_from hi n (s.drop c) (off + c) l2 (by rw [Nat.add_mod, ho, Nat.mod_self]; simp)
    conv => lhs; rw [hs]
    rw [List.zipIdx_append, List.filter_append, List.map_append, h1, l1, h2, List.range_succ_eq_map, List.map_cons, List.map_map, List.singleton_append]
    congr 1
    · rw [Nat.mul_zero, Nat.add_zero, List.getD_eq_getElem?_getD, List.getD_eq_getElem?_getD, List.getElem?_take_of_lt hi]
    · refine List.map_congr_left fun j _ => ?_
      show (s.drop c).getD (i + c * j) 0 = s.getD (i + c * (j + 1)) 0
      rw [List.getD_eq_getElem?_getD, List.getD_eq_getElem?_getD, List.getElem?_drop]
      congr 2
      rw [Nat.mul_add]; omega
theorem channel_eq {c i n : Nat} {s : List Int} (hi : i < c) (hl : s.length = c * n) : Sound.channel c i s = (List.range n).map fun j => s.getD (i + c * j) 0 := chan_from hi n s 0 hl (Nat.zero_mod c)
theorem pick_chan {α : Type} (f : Int → α) {c i n : Nat} {s : List Int} (hi : i < c) (hl : s.length = c * n) : pickV (s.map f) i c = (Sound.channel c i s).map f := by
  rw [channel_eq hi hl]
  unfold pickV
  rw [List.length_map, hl]
  have hn : (c * n - i + c - 1) / c = n := by
    rcases Nat.eq_zero_or_pos n with rfl | hp
    · rw [Nat.mul_zero, Nat.zero_sub, Nat.zero_add, Nat.div_eq_of_lt (by omega)]
    · have : c * 1 ≤ c * n := Nat.mul_le_mul_left c hp
      rw [show c * n - i + c - 1 = (c - 1 - i) + c * n by omega, Nat.add_mul_div_left _ _ (by omega), Nat.div_eq_of_lt (by omega), Nat.zero_add]
  rw [hn, List.map_map]
  have key : ∀ l : List Nat, (∀ j ∈ l, j < n) → (l.filterMap fun j => (s.map f)[i + c * j]?) = l.map (f ∘ fun j => s.getD (i + c * j) 0) := by
    intro l
    induction l with
    | nil => intro _; rfl
    | cons j l ih =>
      intro h
      have hj := h j (by simp)
      have hb : i + c * j < s.length := by
        have : c * (j + 1) ≤ c * n := Nat.mul_le_mul_left c hj
        rw [Nat.mul_add] at this; omega
      rw [List.filterMap_cons, List.getElem?_map, List.getElem?_eq_getElem hb, List.map_cons, ih fun x hx => h x (List.mem_cons_of_mem _ hx)]
      show _ :: _ = _ :: _
      congr 1
      show f _ = f (s.getD (i + c * j) 0)
      rw [List.getD_eq_getElem?_getD, List.getElem?_eq_getElem hb]; rfl
  exact key _ fun j hj => by simpa using hj
theorem channel_len {c i n : Nat} {s : List Int} (hi : i < c) (hl : s.length = c * n) : (Sound.channel c i s).length = n := by
  rw [channel_eq hi hl, List.length_map, List.length_range]
theorem channel_mem {c i : Nat} {s : List Int} {x : Int} (h : x ∈ Sound.channel c i s) : x ∈ s := by
  unfold Sound.channel at h
  obtain ⟨⟨y, k⟩, hy, rfl⟩ := List.mem_map.mp h
  have := List.mem_zipIdx (List.mem_filter.mp hy).1
  rw [this.2.2]
  exact List.getElem_mem _
theorem zeros_le (w : Nat) (y : List Int) : Sound.zeros w y ≤ w := by
  unfold Sound.zeros
  split
  · exact Nat.zero_le _
  · cases e : (List.range w).reverse.find? fun (z : Nat) => y.all fun (x : Int) => x % (2 ^ z : Int) == 0 with
    | none => exact Nat.zero_le _
    | some z =>
      have := List.mem_of_find?_eq_some e
      simp at this
      exact Nat.le_of_lt this
theorem high2 {v : Nat} (h : v < 65536) : (Sound.high 2 v).map UInt8.toNat = [v / 256, v % 256] := by
  show [(UInt8.ofNat (v / 256 ^ 1 % 256)).toNat, (UInt8.ofNat (v / 256 ^ 0 % 256)).toNat] = _
  rw [UInt8.toNat_ofNat', UInt8.toNat_ofNat']
  simp
  omega
def pw (q : PairD) : (Nat × Sound.Bits) × Nat := ((q.1, pBits q.2.1 ++ pBits q.2.2), pbits q)
theorem keepP_least : ∀ (qs : List PairD) (l : PairD), (qs.map pw).foldl comb (some (pw l)) = some (pw (qs.foldl keepP l))
  | [], l => rfl
  | q :: qs, l => by
    rw [List.map_cons, List.foldl_cons, List.foldl_cons, ← keepP_least qs]
    congr 1
    unfold keepP
    show (if pbits q < pbits l then _ else _) = _
    split <;> rfl
theorem keepP_all {Pd : PairD → Prop} : ∀ (qs : List PairD) (l : PairD), Pd l → (∀ q ∈ qs, Pd q) → Pd (qs.foldl keepP l)
  | [], l, h, _ => h
  | q :: qs, l, h, hg => by
    rw [List.foldl_cons]
    refine keepP_all qs _ ?_ fun x hx => hg x (List.mem_cons_of_mem _ hx)
    unfold keepP
    split
    · exact hg q (by simp)
    · exact h
theorem lp_le (wd z : Nat) (y : List Int) : ∀ (ks : List Nat) (l : PWd), (ks.foldl (lpStep wd z y) l).bits ≤ l.bits
  | [], l => Nat.le_refl _
  | k :: ks, l => by
    rw [List.foldl_cons]
    refine Nat.le_trans (lp_le wd z y ks _) ?_
    unfold lpStep
    split
    · exact Nat.le_refl _
    · split
      · omega
      · exact Nat.le_refl _
theorem part_small {wd o : Nat} {ns : List Int} (hw2 : wd ≤ 25) (hn2 : ns.length ≤ 1024) : (leastPartD wd o ns).bits ≤ 30000 := by
  have hz := zeros_le wd ns
  have hyl : (Sound.shrunk wd ns).length = ns.length := by unfold Sound.shrunk; rw [List.length_map]
  unfold leastPartD
  generalize Sound.shrunk wd ns = y at *
  generalize Sound.zeros wd ns = z at *
  split
  · show 1 + z + 4 + (wd - z) ≤ 30000
    omega
  · unfold leastDi
    refine Nat.le_trans (lp_le _ _ _ _ _) ?_
    show 1 + z + 4 + y.length * (wd - z) ≤ 30000
    have := Nat.mul_le_mul (show y.length ≤ 1024 by omega) (show wd - z ≤ 25 by omega)
    omega
def PGood (d : PWd) : Prop := POk d ∧ (pBits d).length = d.bits ∧ d.bits ≤ 30000
theorem part_good {wd o : Nat} {ns : List Int} (hw1 : 1 ≤ wd) (hw2 : wd ≤ 25) (ho : o ≤ 4) (hf : FitAll wd ns) (hn1 : 1 ≤ ns.length) (hn2 : ns.length ≤ 1024) : PGood (leastPartD wd o ns) :=
  ⟨(part_eq hw1 hw2 ho hf hn1 hn2).2.1, (part_eq hw1 hw2 ho hf hn1 hn2).2.2, part_small hw2 hn2⟩
theorem pair_eq {f : Sound.Form} {L R : List Int} (hd1 : 4 ≤ f.depth) (hd2 : f.depth ≤ 24) (ho : f.order ≤ 4) (hl : L.length = R.length) (hn1 : 1 ≤ L.length) (hn2 : L.length ≤ 1024) (fL : FitAll f.depth L) (fR : FitAll f.depth R) :
    Sound.pairBest f L R = ((pairD f.depth f.order L R).1, pBits (pairD f.depth f.order L R).2.1 ++ pBits (pairD f.depth f.order L R).2.2) ∧ PGood (pairD f.depth f.order L R).2.1 ∧ PGood (pairD f.depth f.order L R).2.2 ∧ (pairD f.depth f.order L R).1 < 4 := by
  have hsl : (Sound.side L R).length = L.length := by unfold Sound.side; rw [List.length_zipWith]; omega
  have hml : (Sound.middle L R).length = L.length := by unfold Sound.middle; rw [List.length_zipWith]; omega
  have ga := part_good (o := f.order) (by omega) (by omega) ho fL hn1 hn2
  have gb := part_good (o := f.order) (by omega) (by omega) ho fR (by omega) (by omega)
  have gs := part_good (o := f.order) (show 1 ≤ f.depth + 1 by omega) (by omega) ho (fit_side (by omega) fL fR) (by omega) (by omega)
  have gm := part_good (o := f.order) (by omega) (by omega) ho (fit_mid fL fR) (by omega) (by omega)
  have ea := (part_eq (o := f.order) (by omega) (by omega) ho fL hn1 hn2).1
  have eb := (part_eq (o := f.order) (by omega) (by omega) ho fR (by omega) (by omega)).1
  have es := (part_eq (o := f.order) (show 1 ≤ f.depth + 1 by omega) (by omega) ho (fit_side (by omega) fL fR) (by omega) (by omega)).1
  have em := (part_eq (o := f.order) (by omega) (by omega) ho (fit_mid fL fR) (by omega) (by omega)).1
  unfold Sound.pairBest pairD others
  simp only
  rw [ea, eb, es, em]
  generalize leastPartD f.depth f.order L = pa at *
  generalize leastPartD f.depth f.order R = pb at *
  generalize leastPartD (f.depth + 1) f.order (Sound.side L R) = ps at *
  generalize leastPartD f.depth f.order (Sound.middle L R) = pm at *
  have len : ∀ x y : PWd, PGood x → PGood y → (pBits x ++ pBits y).length = x.bits + y.bits := fun x y hx hy => by rw [List.length_append, hx.2.1, hy.2.1]
  refine ⟨?_, ?_⟩
  · have e : ([(0, pBits pa ++ pBits pb), (1, pBits pa ++ pBits ps), (2, pBits ps ++ pBits pb), (3, pBits pm ++ pBits ps)] : List (Nat × Sound.Bits)).map (fun (x : Nat × Sound.Bits) => (x, x.2.length)) = pw (0, pa, pb) :: ([(1, pa, ps), (2, ps, pb), (3, pm, ps)] : List PairD).map pw := by
      simp only [List.map_cons, List.map_nil, pw, pbits, len pa pb ga gb, len pa ps ga gs, len ps pb gs gb, len pm ps gm gs]
    rw [e, ← leastOf_foldl, List.foldl_cons, show comb none (pw (0, pa, pb)) = some (pw (0, pa, pb)) from rfl, keepP_least]
    rfl
  · exact keepP_all (Pd := fun q => PGood q.2.1 ∧ PGood q.2.2 ∧ q.1 < 4) _ _ ⟨ga, gb, by show 0 < 4; decide⟩ fun q hq => by
      simp only [List.mem_cons, List.not_mem_nil, or_false] at hq
      rcases hq with rfl | rfl | rfl
      · exact ⟨ga, gs, by show 1 < 4; decide⟩
      · exact ⟨gs, gb, by show 2 < 4; decide⟩
      · exact ⟨gm, gs, by show 3 < 4; decide⟩
def chans (c : Nat) (s : List Int) : List (List Int) := (List.range c).map fun i => Sound.channel c i s
theorem chans_len (c : Nat) (s : List Int) : (chans c s).length = c := by unfold chans; rw [List.length_map, List.length_range]
theorem chans_get {c i : Nat} {s : List Int} (h : i < c) : (chans c s).getD i [] = Sound.channel c i s := by
  unfold chans
  rw [List.getD_eq_getElem?_getD, List.getElem?_map, List.getElem?_range h]; rfl
def qsOf (c d o : Nat) (s : List Int) : List PairD := (List.range (c / 2)).map (pairAt d o (chans c s))
def oddBits (c d o : Nat) (s : List Int) : Sound.Bits := if c % 2 = 1 then pBits (leastPartD d o (Sound.channel c (c - 1) s)) else []
def headBits (k n : Nat) : Sound.Bits := Sound.u 16 19287 ++ Sound.u 20 k ++ Sound.u 8 (n - 1)
def fBits (c d o k n : Nat) (s : List Int) : Sound.Bits := headBits k n ++ (qsOf c d o s).flatMap (fun q => Sound.u 2 q.1) ++ (qsOf c d o s).flatMap (fun q => pBits q.2.1 ++ pBits q.2.2) ++ oddBits c d o s
theorem FitAll.sub {d : Nat} {s t : List Int} (h : FitAll d s) (hs : ∀ x ∈ t, x ∈ s) : FitAll d t := fun x hx => h x (hs x hx)
theorem pair_at {f : Sound.Form} {n i : Nat} {s : List Int} (hc1 : 1 ≤ f.channels) (hd1 : 4 ≤ f.depth) (hd2 : f.depth ≤ 24) (ho : f.order ≤ 4) (hl : s.length = f.channels * n) (hn1 : 1 ≤ n) (hn2 : n ≤ 1024) (hf : FitAll f.depth s) (hi : i < f.channels / 2) :
    Sound.pairBest f (Sound.channel f.channels (2 * i) s) (Sound.channel f.channels (2 * i + 1) s) = ((pairAt f.depth f.order (chans f.channels s) i).1, pBits (pairAt f.depth f.order (chans f.channels s) i).2.1 ++ pBits (pairAt f.depth f.order (chans f.channels s) i).2.2) ∧
      PGood (pairAt f.depth f.order (chans f.channels s) i).2.1 ∧ PGood (pairAt f.depth f.order (chans f.channels s) i).2.2 ∧ (pairAt f.depth f.order (chans f.channels s) i).1 < 4 := by
  unfold pairAt
  rw [chans_get (by omega), chans_get (by omega)]
  have l1 := channel_len (c := f.channels) (i := 2 * i) (by omega) hl
  have l2 := channel_len (c := f.channels) (i := 2 * i + 1) (by omega) hl
  exact pair_eq hd1 hd2 ho (by omega) (by omega) (by omega) (hf.sub fun x => channel_mem) (hf.sub fun x => channel_mem)
theorem frame_eq {f : Sound.Form} {k n : Nat} {s : List Int} (hc1 : 1 ≤ f.channels) (hd1 : 4 ≤ f.depth) (hd2 : f.depth ≤ 24) (ho : f.order ≤ 4) (hl : s.length = f.channels * n) (hn1 : 1 ≤ n) (hn2 : n ≤ 1024) (hf : FitAll f.depth s) :
    Sound.frame f k s = bytesP (fBits f.channels f.depth f.order k n s) ++ Sound.high 2 (Sound.crc16 (bytesP (fBits f.channels f.depth f.order k n s))) := by
  unfold Sound.frame
  have e1 : (List.range (Sound.pairs f)).map (fun (i : Nat) => Sound.pairBest f (Sound.channel f.channels (2 * i) s) (Sound.channel f.channels (2 * i + 1) s)) = (qsOf f.channels f.depth f.order s).map fun q => (q.1, pBits q.2.1 ++ pBits q.2.2) := by
    unfold qsOf
    rw [List.map_map]
    refine List.map_congr_left fun i hi => ?_
    exact (pair_at hc1 hd1 hd2 ho hl hn1 hn2 hf (by simpa [Sound.pairs] using hi)).1
  have e2 : s.length / f.channels = n := by rw [hl, Nat.mul_div_cancel_left _ (by omega)]
  have e3 : (if f.channels % 2 = 1 then Sound.part f.depth f.order (Sound.channel f.channels (f.channels - 1) s) else []) = oddBits f.channels f.depth f.order s := by
    unfold oddBits
    split
    · have l1 := channel_len (c := f.channels) (i := f.channels - 1) (by omega) hl
      exact (part_eq (by omega) (by omega) ho (hf.sub fun x => channel_mem) (by omega) (by omega)).1
    · rfl
  simp only [e1, e2, e3, List.flatMap_map]
  have e4 : Sound.u 16 0x4B57 ++ (Sound.u 20 k ++ (Sound.u 8 (n - 1) ++ ((qsOf f.channels f.depth f.order s).flatMap (fun q => Sound.u 2 q.1) ++ ((qsOf f.channels f.depth f.order s).flatMap (fun q => pBits q.2.1 ++ pBits q.2.2) ++ oddBits f.channels f.depth f.order s)))) = fBits f.channels f.depth f.order k n s := by
    unfold fBits headBits
    simp only [List.append_assoc]
  rw [e4]
  rfl
theorem qs_len (c d o : Nat) (s : List Int) : (qsOf c d o s).length = c / 2 := by unfold qsOf; rw [List.length_map, List.length_range]
theorem qs_get {c d o i : Nat} {s : List Int} (h : i < c / 2) : (qsOf c d o s)[i]? = some (pairAt d o (chans c s) i) := by
  unfold qsOf
  rw [List.getElem?_map, List.getElem?_range h]; rfl
theorem flat_le {α : Type} {g : α → Sound.Bits} {m : Nat} : ∀ (l : List α), (∀ x ∈ l, (g x).length ≤ m) → (l.flatMap g).length ≤ l.length * m
  | [], _ => by simp
  | x :: l, h => by
    have ih := flat_le l fun y hy => h y (List.mem_cons_of_mem _ hy)
    have := h x (by simp)
    rw [List.flatMap_cons, List.length_append, List.length_cons, Nat.add_mul]
    omega
def spWF (K : PySem.W.Frag) (A : Adr) : Sp := fun vs H Q _ => ∃ (f q : Addr) (F : Sound.Form) (k n : Nat) (s : List Int), vs = [.ref f, .int k, .ref q] ∧ IsForm A.c_Form H f F.channels F.depth F.block F.order ∧ SqL K H q (s.map V.int) ∧ (1 ≤ F.channels ∧ F.channels ≤ 4) ∧ (4 ≤ F.depth ∧ F.depth ≤ 24 ∧ F.order ≤ 4) ∧ (s.length = F.channels * n ∧ 1 ≤ n ∧ n ≤ 256) ∧ FitAll F.depth s ∧ k < 2 ^ 20 ∧
  ∀ (D : Addr) (H' : Hp), Same H H' → H' D = some (.lst (vN ((Sound.frame F k s).map UInt8.toNat))) → Q (.ref D) H'
theorem sc_write_frame : FnScope ["form", "k", "numbers", "channels", "writer", "pairs", "pair", "part", "written", "check", "c"] ["form", "k", "numbers"] (defScope s_write_frame) := ⟨rfl, rfl, rfl, by decide +kernel, rfl, by decide +kernel, by decide +kernel⟩
theorem But.same {x : Addr} {H H1 H' : Hp} (hx : H x = none) (s : Same H H1) (b : But x H1 H') : Same H H' := fun a o e => b a o (s a o e) (ne_of_none e hx)
theorem bytes_len (b : Sound.Bits) : ((bytesP b).map UInt8.toNat).length ≤ b.length + 8 := by
  have h8 := pad_len b.length
  unfold bytesP
  rw [bytes_vals ((b.length + Sound.padBits b.length) / 8) _ _ (by rw [List.length_append, List.length_replicate]; omega) (by omega), List.length_map, List.length_range]
  omega
theorem atI_last {α : Type} {xs : List α} {v : α} (h : xs[xs.length - 1]? = some v) (h0 : 1 ≤ xs.length) : atI xs (-1) = some v := by
  unfold atI ixN
  rw [if_neg (by decide), if_pos (by omega)]
  have e : ((-1 : Int) + (xs.length : Nat)).toNat = xs.length - 1 := by omega
  rw [e]
  exact h
theorem crcP_lt : ∀ (l : List Nat) (c : Nat), c < 65536 → (∀ x ∈ l, x < 256) → l.foldl crcByteP c < 65536
  | [], c, h, _ => h
  | x :: l, c, h, hb => by
    have h2 := (byteP h (hb x (by simp))).2
    rw [List.foldl_cons]
    exact crcP_lt l _ h2 fun y hy => hb y (List.mem_cons_of_mem _ hy)
theorem frame_vals {F : Sound.Form} {k n : Nat} {s : List Int} (hc1 : 1 ≤ F.channels) (hd1 : 4 ≤ F.depth) (hd2 : F.depth ≤ 24) (ho : F.order ≤ 4) (hl : s.length = F.channels * n) (hn1 : 1 ≤ n) (hn2 : n ≤ 1024) (hf : FitAll F.depth s) {W : List Nat} (hW : (bytesP (fBits F.channels F.depth F.order k n s)).map UInt8.toNat = W) :
    vN ((Sound.frame F k s).map UInt8.toNat) = vN W ++ [V.int ((crcP W : Nat) / 2 ^ (8 : Int).toNat), V.int (Builtin.bitAnd (crcP W : Nat) 255)] := by
  have hb : ∀ x ∈ W, x < 256 := fun x hx => by
    rw [← hW] at hx
    obtain ⟨y, _, rfl⟩ := List.mem_map.mp hx
    exact y.toNat_lt
  have hlt : crcP W < 65536 := crcP_lt W 65535 (by decide) hb
  rw [frame_eq hc1 hd1 hd2 ho hl hn1 hn2 hf, List.map_append, ← crc_eq, hW, high2 hlt, and255]
  unfold vN
  rw [List.map_append]
  congr 1
theorem fBits_small {F : Sound.Form} {k n : Nat} {s : List Int} (hc1 : 1 ≤ F.channels) (hc4 : F.channels ≤ 4) (hd1 : 4 ≤ F.depth) (hd2 : F.depth ≤ 24) (ho : F.order ≤ 4) (hl : s.length = F.channels * n) (hn1 : 1 ≤ n) (hn2 : n ≤ 1024) (hf : FitAll F.depth s) :
    (headBits k n).length = 44 ∧ ((qsOf F.channels F.depth F.order s).flatMap fun q => Sound.u 2 q.1).length ≤ 4 ∧ ((qsOf F.channels F.depth F.order s).flatMap fun q => pBits q.2.1 ++ pBits q.2.2).length ≤ 120000 ∧ (oddBits F.channels F.depth F.order s).length ≤ 30000 := by
  have hq2 : F.channels / 2 ≤ 2 := by omega
  refine ⟨by unfold headBits; rw [List.length_append, List.length_append, u_len, u_len, u_len], ?_, ?_, ?_⟩
  · refine Nat.le_trans (flat_le (m := 2) _ fun q _ => by rw [u_len]; omega) ?_
    rw [qs_len]; omega
  · refine Nat.le_trans (flat_le (m := 60000) _ fun q hq => ?_) (by rw [qs_len]; omega)
    unfold qsOf at hq
    obtain ⟨i, hi, rfl⟩ := List.mem_map.mp hq
    obtain ⟨_, g1, g2, _⟩ := pair_at hc1 hd1 hd2 ho hl hn1 hn2 hf (by simpa using hi)
    rw [List.length_append, g1.2.1, g2.2.1]
    have := g1.2.2
    have := g2.2.2
    omega
  · unfold oddBits
    split
    · have l1 := channel_len (c := F.channels) (i := F.channels - 1) (by omega) hl
      have g := part_good (wd := F.depth) (o := F.order) (by omega) (by omega) ho (hf.sub fun x => channel_mem (c := F.channels) (i := F.channels - 1)) (by omega) (by omega)
      rw [g.2.1]
      exact g.2.2
    · exact Nat.zero_le _
theorem frame_small {F : Sound.Form} {k n : Nat} {s : List Int} (hc1 : 1 ≤ F.channels) (hc4 : F.channels ≤ 4) (hd1 : 4 ≤ F.depth) (hd2 : F.depth ≤ 24) (ho : F.order ≤ 4) (hl : s.length = F.channels * n) (hn1 : 1 ≤ n) (hn2 : n ≤ 1024) (hf : FitAll F.depth s) : ((Sound.frame F k s).map UInt8.toNat).length ≤ 10000000 := by
  obtain ⟨z1, z2, z3, z4⟩ := fBits_small (k := k) hc1 hc4 hd1 hd2 ho hl hn1 hn2 hf
  have hb := bytes_len (fBits F.channels F.depth F.order k n s)
  rw [frame_eq hc1 hd1 hd2 ho hl hn1 hn2 hf, List.length_map, List.length_append]
  rw [List.length_map] at hb
  have e2 : (Sound.high 2 (Sound.crc16 (bytesP (fBits F.channels F.depth F.order k n s)))).length = 2 := rfl
  have e3 : (fBits F.channels F.depth F.order k n s).length ≤ 160000 := by
    unfold fBits
    rw [List.length_append, List.length_append, List.length_append]
    omega
  omega
theorem ok_write_frame (T : Txt K mg A) : FnOk P w K mg base CX0 10 A.f_write_frame A.d_write_frame ["form", "k", "numbers"] (spWF K A) := by
  refine T.F_write_frame.ok sc_write_frame (fun vs H Q E h => ?_) (fun cdv Ar outer s H vs Q E hr h => ?_)
  · obtain ⟨f, q, F, k, n, s, rfl, _⟩ := h
    rfl
  · obtain ⟨f, q, F, kk, n, ss, rfl, hF, hq, ⟨hc1, hc4⟩, ⟨hd1, hd2, ho⟩, ⟨hl, hn1, hn2⟩, hfit, hk20, k⟩ := h
    have hr1 : Room 1 _ := hr.mono (by decide)
    have hr2 : Room 2 _ := hr.mono (by decide)
    have hr5 : Room 5 _ := hr.mono (by decide)
    have hr7 : Room 7 _ := hr.mono (by decide)
    refine ⟨_, pss_cons (ps_setLc (i := 3) (own := [("c", 10)]) rfl sc_write_frame.nd rfl rfl rfl (pi_range1 rfl T.z_range (pa_cons (pe_fld (pv 0) rfl) pa_nil)) (blkOk_by (by kernel_rfl)) (fun _ _ _ _ _ => pg_name (i := 10) sc_write_frame.nd rfl (Or.inl rfl)) (fun _ _ _ _ _ => pts_nil)
        (fun _ _ _ _ _ => pe_step (K := K) rfl (pv 2) (pv 10) (pfldK (K := K) rfl (pv 0) rfl)))
      (pss_cons (ps_set (i := 4) sc_write_frame.nd rfl (Or.inl rfl) (pe_make0 T.k_BitWriter (ok_BitWriter_init T) hr2 rfl T.m_BitWriter T.b_BitWriter_init .nil pass0))
      (pss_cons (ps_expr (pe_meth (pv 4) T.l_BitWriter T.e_BitWriter_unsigned (ok_BitWriter_unsigned T) hr1 T.b_BitWriter_unsigned .nil pass0 (pa_cons pe_int (pa_cons (pe_gi rfl T.g_MARK_frames) pa_nil))))
      (pss_cons (ps_expr (pe_meth (pv 4) T.l_BitWriter T.e_BitWriter_unsigned (ok_BitWriter_unsigned T) hr1 T.b_BitWriter_unsigned .nil pass0 (pa_cons pe_int (pa_cons (pv 1) pa_nil))))
      (pss_cons (ps_expr (pe_meth (pv 4) T.l_BitWriter T.e_BitWriter_unsigned (ok_BitWriter_unsigned T) hr1 T.b_BitWriter_unsigned .nil pass0 (pa_cons pe_int (pa_cons (pe_op op_sub (pe_callB call_len_seq (by rfl) T.z_len PySem.boot_len (pa_cons (pe_ix (ixL (K := K) rfl) (pv 3) pe_int (fun _ _ => rfl)) pa_nil)) pe_int) pa_nil))))
      (pss_cons (ps_set (i := 5) sc_write_frame.nd rfl (Or.inl rfl) (pe_call (ok_least_pairs T) hr rfl T.m_least_pairs T.F_least_pairs.kp T.b_least_pairs .nil pass0 (pa_cons (pv 0) (pa_cons (pv 3) pa_nil))))
      (pss_cons (ps_for PassesOwn.never rfl (pi_list (pv 5)) (pg_name (i := 6) sc_write_frame.nd rfl (Or.inl rfl)) (pss_one (ps_expr (pe_meth (pv 4) T.l_BitWriter T.e_BitWriter_unsigned (ok_BitWriter_unsigned T) hr1 T.b_BitWriter_unsigned .nil pass0 (pa_cons pe_int (pa_cons (pe_fld (pv 6) rfl) pa_nil))))))
      (pss_cons (ps_for PassesOwn.never rfl (pi_list (pv 5)) (pg_name (i := 6) sc_write_frame.nd rfl (Or.inl rfl)) (pss_one (ps_for PassesOwn.never rfl (pi_list (pe_fld (pv 6) rfl)) (pg_name (i := 7) sc_write_frame.nd rfl (Or.inl rfl))
          (pss_one (ps_expr (pe_call (ok_write_part T) hr5 rfl T.m_write_part T.F_write_part.kp T.b_write_part .nil pass0 (pa_cons (pv 4) (pa_cons (pv 7) pa_nil))))))))
      (pss_cons (ps_if (pt_cmpR op_eq (pe_op op_mod (pe_fld (pv 0) rfl) pe_int) pe_int (nomark _)) (pss_one (ps_expr (pe_call (ok_write_part T) hr5 rfl T.m_write_part T.F_write_part.kp T.b_write_part .nil pass0 (pa_cons (pv 4) (pa_cons
          (pe_call (ok_least_part T) hr7 rfl T.m_least_part T.F_least_part.kp T.b_least_part .nil pass0 (pa_cons (pe_fld (pv 0) rfl) (pa_cons (pe_fld (pv 0) rfl) (pa_cons (pe_ix (ixL (K := K) rfl) (pv 3) (pe_un un_neg pe_int) (fun _ _ => rfl)) pa_nil)))) pa_nil))))) pss_nil)
      (pss_cons (ps_set (i := 8) sc_write_frame.nd rfl (Or.inl rfl) (pe_meth0 (pv 4) T.l_BitWriter T.e_BitWriter_whole_bytes (ok_BitWriter_whole_bytes T) hr1 T.b_BitWriter_whole_bytes .nil pass0))
      (pss_cons (ps_set (i := 9) sc_write_frame.nd rfl (Or.inl rfl) (pe_call (ok_crc16 T) hr1 rfl T.m_crc16 T.F_crc16.kp T.b_crc16 .nil pass0 (pa_cons (pv 8) pa_nil)))
      (pss_one (ps_ret (pe_op op_cat (pv 8) (pe_lst (pa_cons (pe_op op_shr (pv 9) pe_int) (pa_cons (pe_op op_and (pv 9) pe_int) pa_nil)))))))))))))))), ?_⟩
    obtain ⟨dF, gF, sF, hf⟩ := id hF
    have e62 : (2 : Int) ^ 62 = 4611686018427387904 := by decide
    have hcn : F.channels ≤ ss.length := by rw [hl]; exact Nat.le_mul_of_pos_right _ hn1
    obtain ⟨z1, z2, z3, z4⟩ := fBits_small (k := kk) hc1 hc4 hd1 hd2 ho hl hn1 (by omega) hfit
    refine ⟨_, rfl, f, A.c_Form, dF, _, _, rfl, hf, T.l_Form, T.n_Form_channels, rfl, _, rfl, by omega, by omega, fun D hD => ?_⟩
    rw [Int.toNat_natCast]
    refine lc_rel (J := Itr 0 F.channels) hD F.channels (by rw [sizeLine_eq]; omega) (fun i v Hq => ∃ a, v = .ref a ∧ SqL K Hq a ((Sound.channel F.channels i ss).map V.int)) (fun i v H1 H2 _ sm ⟨a, a1, a2⟩ => ⟨a, a1, sm.seq a2⟩)
      (fun i Hh hi s1 => hi) (fun Hh s1 => Nat.le_refl _) ?_ ?_
    · rintro i Hh z H' hi s1 ⟨acc, hacc⟩ ⟨rfl, rfl⟩ C hC
      rw [Int.zero_add]
      refine ⟨rfl, _, rfl, _, rfl, _, rfl, f, A.c_Form, dF, _, _, rfl, s1 _ _ hf, T.l_Form, T.n_Form_channels, rfl, q, _, i, F.channels, rfl, rfl, rfl, s1.seq hq, ⟨by rw [List.length_map]; omega, hc1⟩, fun p hp => ?_⟩
      rw [pick_chan V.int hi hl]
      refine hC _ _ (same_new hp) ⟨p, rfl, SqL.of ?_⟩
      rw [hide_ne (fun e => by rw [e, hacc] at hp; cases hp)]
      exact upd_same
    intro H1 xs s1 hlen hp hx
    obtain ⟨as, rfl, _, has⟩ := refs_of hp
    rw [List.length_map] at hlen
    have hCh : IsCh K H1 D F.depth n (chans F.channels ss) := ⟨as, SqL.of hx, by rw [chans_len]; exact hlen, fun i a ch e1 e2 => by
      have hi : i < F.channels := by have := (List.getElem?_eq_some_iff.mp e1).1; omega
      unfold chans at e2
      rw [List.getElem?_map, List.getElem?_range hi] at e2
      cases e2
      exact ⟨has i a e1, channel_len hi hl, hfit.sub fun x => channel_mem⟩⟩
    intro x dx hx1 hdx hne
    refine ⟨x, dx, rfl, upd_same, rfl, ?_⟩
    rw [upd_made]
    have s12 : Same H1 (upd (upd H1 dx (.own x)) x (.ins A.c_BitWriter dx (bwf (.int 0) (.int 0)))) := same_made hx1 hdx
    have hw2 : IsWr A.c_BitWriter (upd (upd H1 dx (.own x)) x (.ins A.c_BitWriter dx (bwf (.int 0) (.int 0)))) x [] := ⟨dx, upd_same⟩
    generalize upd (upd H1 dx (.own x)) x (.ins A.c_BitWriter dx (bwf (.int 0) (.int 0))) = H2 at *
    obtain ⟨d2, hx2⟩ := id hw2
    refine ⟨_, rfl, x, d2, _, rfl, hx2, rfl, x, 16, 19287, [], rfl, hw2, by decide, by unfold MANY; rw [List.length_nil]; omega, fun H3 hb3 hw3 => ?_⟩
    obtain ⟨d3, hx3⟩ := id hw3
    refine ⟨_, rfl, x, d3, _, rfl, hx3, rfl, _, rfl, x, 20, kk, _, rfl, hw3, hk20, by unfold MANY; rw [List.length_append, List.length_nil, u_len]; omega, fun H4 hb4 hw4 => ?_⟩
    obtain ⟨d4, hx4⟩ := id hw4
    have s14 : Same H1 H4 := But.same hx1 s12 (hb3.trans hb4)
    obtain ⟨as0, a0, g1, g2, g3, g4, _, _⟩ := (hCh.same s14).at (i := 0) (by rw [chans_len]; omega)
    refine ⟨_, rfl, x, d4, _, rfl, hx4, rfl, _, rfl, D, _, _, _, rfl, rfl, g1, atI_nat (j := 0) g2, a0, _, rfl, .inl g3, _, _, rfl, rfl, ?_⟩
    have e8 : (((((chans F.channels ss).getD 0 []).map V.int).length : Nat) : Int) - 1 = ((n - 1 : Nat) : Int) := by rw [List.length_map, g4]; omega
    dsimp only
    rw [e8]
    refine ⟨x, 8, n - 1, _, rfl, hw4, by show n - 1 < 256; omega, by unfold MANY; rw [List.length_append, List.length_append, List.length_nil, u_len, u_len]; omega, fun H5 hb5 hw5 => ?_⟩
    have hw5 : IsWr A.c_BitWriter H5 x (headBits kk n) := hw5
    have s15 : Same H1 H5 := But.same hx1 s12 (hb3.trans (hb4.trans hb5))
    refine ⟨_, rfl, _, rfl, f, D, F.channels, F.depth, F.block, F.order, n, chans F.channels ss, rfl, (hF.same s1).same s15, hCh.same s15, ⟨chans_len _ _, hn1, by omega⟩, ⟨hc1, hc4⟩, ⟨hd1, hd2, ho⟩, fun Pp bs H6 s6 hPp hbl hbs => ?_⟩
    have hw6 : IsWr A.c_BitWriter H6 x (headBits kk n) := by
      obtain ⟨d5, hx5⟩ := hw5
      exact ⟨d5, s6 _ _ hx5⟩
    have s16 : Same H1 H6 := s15.trans s6
    have hx6 : ∃ d6 n6 m6, H6 x = some (.ins A.c_BitWriter d6 (bwf n6 m6)) := by
      obtain ⟨d6, h6⟩ := hw6
      exact ⟨d6, _, _, h6⟩
    obtain ⟨d6, n6, m6, hx6⟩ := hx6
    have hqg : ∀ i, i < F.channels / 2 → (qsOf F.channels F.depth F.order ss)[i]? = some (pairAt F.depth F.order (chans F.channels ss) i) := fun i hi => qs_get hi
    have hgood := fun i (hi : i < F.channels / 2) => (pair_at (n := n) hc1 hd1 hd2 ho hl hn1 (by omega) hfit hi).2
    generalize hQs : qsOf F.channels F.depth F.order ss = Qs at *
    have hQl : Qs.length = F.channels / 2 := by rw [← hQs, qs_len]
    refine ⟨_, rfl, Pp, rfl, ⟨_, SqL.of hPp⟩, ?_⟩
    refine for_list (K := K) (a := Pp) (xs := bs.map V.ref) (fun i σ H' => ∃ v6 v7 v8 v9 v10 : Option V, σ = [some (.ref f), some (.int kk), some (.ref q), some (.ref D), some (.ref x), some (.ref Pp), v6, v7, v8, v9, v10] ∧ But x H6 H' ∧ IsWr A.c_BitWriter H' x (headBits kk n ++ (Qs.take i).flatMap fun q => Sound.u 2 q.1))
      ⟨none, none, none, none, none, rfl, But.refl _ _, by rw [List.take_zero]; simpa using hw6⟩ (fun i σ H' _ ⟨_, _, _, _, _, _, hb, _⟩ => hb.sq hx6 (SqL.of hPp)) ?_ ?_
    · rintro i y σ H7 hi ⟨v6, v7, v8, v9, v10, rfl, hb7, hw7⟩
      obtain ⟨ai, hai, rfl⟩ := ref_get hi
      have hic : i < F.channels / 2 := by have := (List.getElem?_eq_some_iff.mp hai).1; omega
      obtain ⟨e1, p1, a1, b1, hp1, _⟩ := (hbs i ai hai).but hw6 hb7
      obtain ⟨d7, hx7⟩ := id hw7
      have hfs := flat_succ (fun q : PairD => Sound.u 2 q.1) (hqg i hic)
      have htl := flat_take_len (fun q : PairD => Sound.u 2 q.1) Qs i
      refine ⟨_, rfl, x, d7, _, rfl, hx7, rfl, _, rfl, ai, A.c_PairWay, e1, _, _, rfl, hp1, T.l_PairWay, T.n_PairWay_mode, rfl, x, 2, _, _, rfl, hw7, (hgood i hic).2.2, by unfold MANY; rw [List.length_append]; omega, fun H8 hb8 hw8 => ⟨_, _, _, _, _, rfl, hb7.trans hb8, ?_⟩⟩
      rw [hfs, ← List.append_assoc]
      exact hw8
    rintro σ H7 ⟨v6, v7, v8, v9, v10, rfl, hb7, hw7⟩
    rw [List.length_map, hbl, ← hQl, List.take_length] at hw7
    generalize hMb : Qs.flatMap (fun q => Sound.u 2 q.1) = Mb at *
    have hx7 : ∃ d7 n7 m7, H7 x = some (.ins A.c_BitWriter d7 (bwf n7 m7)) := by
      obtain ⟨d7, h7⟩ := hw7
      exact ⟨d7, _, _, h7⟩
    obtain ⟨d7, n7, m7, hx7⟩ := hx7
    have hPp7 : SqL K H7 Pp (bs.map V.ref) := hb7.sq hx6 (SqL.of hPp)
    refine ⟨_, rfl, Pp, rfl, ⟨_, hPp7⟩, ?_⟩
    refine for_list (K := K) (a := Pp) (xs := bs.map V.ref) (fun i σ H' => ∃ v6 v7 v8 v9 v10 : Option V, σ = [some (.ref f), some (.int kk), some (.ref q), some (.ref D), some (.ref x), some (.ref Pp), v6, v7, v8, v9, v10] ∧ But x H7 H' ∧ IsWr A.c_BitWriter H' x (headBits kk n ++ Mb ++ (Qs.take i).flatMap fun q => pBits q.2.1 ++ pBits q.2.2))
      ⟨v6, v7, v8, v9, v10, rfl, But.refl _ _, by rw [List.take_zero]; simpa using hw7⟩ (fun i σ H' _ ⟨_, _, _, _, _, _, hb, _⟩ => hb.sq hx7 hPp7) ?_ ?_
    · rintro i y σ H8 hi ⟨u6, u7, u8, u9, u10, rfl, hb8, hw8⟩
      obtain ⟨ai, hai, rfl⟩ := ref_get hi
      have hic : i < F.channels / 2 := by have := (List.getElem?_eq_some_iff.mp hai).1; omega
      obtain ⟨e1, p1, a1, b1, hp1, hp2, hPa, hPb⟩ := (hbs i ai hai).but hw6 (hb7.trans hb8)
      obtain ⟨ga, gb, _⟩ := hgood i hic
      have hfs := flat_succ (fun q : PairD => pBits q.2.1 ++ pBits q.2.2) (hqg i hic)
      have htl := flat_take_len (fun q : PairD => pBits q.2.1 ++ pBits q.2.2) Qs i
      have la := ga.2.1
      have lb := gb.2.1
      have sa := ga.2.2
      have sb := gb.2.2
      generalize (pairAt F.depth F.order (chans F.channels ss) i).2.1 = da at *
      generalize (pairAt F.depth F.order (chans F.channels ss) i).2.2 = db at *
      have hx8 : ∃ d8 n8 m8, H8 x = some (.ins A.c_BitWriter d8 (bwf n8 m8)) := by
        obtain ⟨d8, h8⟩ := hw8
        exact ⟨d8, _, _, h8⟩
      obtain ⟨d8, n8, m8, hx8⟩ := hx8
      generalize hpre : headBits kk n ++ Mb ++ (Qs.take i).flatMap (fun q => pBits q.2.1 ++ pBits q.2.2) = pre at hw8
      have hprel : pre.length ≤ 44 + 4 + 120000 := by
        rw [← hpre, List.length_append, List.length_append]; omega
      refine ⟨_, rfl, ai, A.c_PairWay, e1, _, _, rfl, hp1, T.l_PairWay, T.n_PairWay_parts, rfl, p1, rfl, ⟨_, SqL.of hp2⟩, ?_⟩
      refine for_list (K := K) (a := p1) (xs := [.ref a1, .ref b1]) (fun j σ H' => ∃ v7 v8 v9 v10 : Option V, σ = [some (.ref f), some (.int kk), some (.ref q), some (.ref D), some (.ref x), some (.ref Pp), some (.ref ai), v7, v8, v9, v10] ∧ But x H8 H' ∧ IsWr A.c_BitWriter H' x (pre ++ ([da, db].take j).flatMap pBits))
        ⟨u7, u8, u9, u10, rfl, But.refl _ _, by rw [List.take_zero]; simpa using hw8⟩ (fun j σ H' _ ⟨_, _, _, _, _, hb, _⟩ => hb.sq hx8 (SqL.of hp2)) ?_ ?_
      · rintro j y σ H9 hj ⟨w7, w8, w9, w10, rfl, hb9, hw9⟩
        have hj2 : j < 2 := (List.getElem?_eq_some_iff.mp hj).1
        rcases (by omega : j = 0 ∨ j = 1) with rfl | rfl
        · cases hj
          refine ⟨_, rfl, _, rfl, x, a1, da, _, rfl, hw9, hPa.but hw8 hb9, ga.1, by unfold MANY; rw [List.length_append]; simp only [List.take_zero, List.flatMap_nil, List.length_nil]; omega, fun H10 hb10 hw10 => ⟨_, _, _, _, rfl, hb9.trans hb10, ?_⟩⟩
          simpa using hw10
        · cases hj
          refine ⟨_, rfl, _, rfl, x, b1, db, _, rfl, hw9, hPb.but hw8 hb9, gb.1, by unfold MANY; rw [List.length_append]; simp only [List.take_succ_cons, List.take_zero, List.flatMap_cons, List.flatMap_nil, List.append_nil]; omega, fun H10 hb10 hw10 => ⟨_, _, _, _, rfl, hb9.trans hb10, ?_⟩⟩
          simpa using hw10
      · rintro σ H9 ⟨w7, w8, w9, w10, rfl, hb9, hw9⟩
        refine ⟨_, _, _, _, _, rfl, hb8.trans hb9, ?_⟩
        rw [hfs, ← List.append_assoc, hpre]
        simpa using hw9
    rintro σ H8 ⟨u6, u7, u8, u9, u10, rfl, hb8, hw8⟩
    rw [List.length_map, hbl, ← hQl, List.take_length] at hw8
    have s18 : Same H1 H8 := But.same hx1 s16 (hb7.trans hb8)
    have hF8 : IsForm A.c_Form H8 f F.channels F.depth F.block F.order := (hF.same s1).same s18
    obtain ⟨d8, gF8, sF8, hf8⟩ := id hF8
    have tail : ∀ (E' : Ends) (t6 t7 t8 t9 t10 : Option V) (H9 : Hp), Same H1 H9 → IsWr A.c_BitWriter H9 x (fBits F.channels F.depth F.order kk n ss) → (∀ (D : Addr) (H' : Hp), Same H H' → H' D = some (.lst (vN ((Sound.frame F kk ss).map UInt8.toNat))) → E'.rt (.ref D) H') →
        tSeq (tAsg (tMeth A.c_BitWriter "whole_bytes" (spBytes A.c_BitWriter) [] E0 (tVar 4) tNil) (gName 8)) (tSeq (tAsg (tCall (spCrc K) [] E0 (tCons (tVar 8) tNil)) (gName 9)) (tRet (tOp rCat (tVar 8) (tLst (tCons (tOp (rI (fun _ j => 0 ≤ j) fun i j => V.int (i / 2 ^ j.toNat)) (tVar 9) (tC (.int 8))) (tCons (tOp (rI0 fun i j => V.int (Builtin.bitAnd i j)) (tVar 9) (tC (.int 255))) tNil)))))) E'
          [some (.ref f), some (.int kk), some (.ref q), some (.ref D), some (.ref x), some (.ref Pp), t6, t7, t8, t9, t10] H9 := by
      intro E' t6 t7 t8 t9 t10 H9 s19 hw9 k'
      obtain ⟨d9, hx9⟩ := id hw9
      have hlen : (fBits F.channels F.depth F.order kk n ss).length ≤ 1000000 := by
        unfold fBits
        rw [hQs, hMb, List.length_append, List.length_append, List.length_append]
        omega
      refine ⟨_, rfl, x, d9, _, rfl, hx9, rfl, x, _, rfl, hw9, hlen, fun W H10 hW s10 hx10 => ?_⟩
      have hv := frame_vals (k := kk) hc1 hd1 hd2 ho hl hn1 (by omega) hfit rfl
      have hb : ∀ z ∈ (bytesP (fBits F.channels F.depth F.order kk n ss)).map UInt8.toNat, z < 256 := fun z hz => by
        obtain ⟨y, _, rfl⟩ := List.mem_map.mp hz
        exact y.toNat_lt
      have hbl2 : ((bytesP (fBits F.channels F.depth F.order kk n ss)).map UInt8.toNat).length ≤ 10000000 := by
        have := bytes_len (fBits F.channels F.depth F.order kk n ss)
        omega
      generalize (bytesP (fBits F.channels F.depth F.order kk n ss)).map UInt8.toNat = Wl at *
      refine ⟨_, rfl, W, Wl, rfl, SqL.of hx10, hb, ?_⟩
      refine ⟨_, rfl, _, rfl, _, _, rfl, rfl, (by show (0 : Int) ≤ 8; decide), _, rfl, _, _, rfl, rfl, (by show 2 ≤ sizeLine; decide), fun p hp => ?_⟩
      have hWp : W ≠ p := ne_of_none hx10 hp
      refine ⟨W, p, _, _, rfl, rfl, by rw [upd_ne hWp]; exact hx10, upd_same, by rw [vN_len, sizeLine_eq]; show Wl.length + 2 ≤ _; omega, fun p2 hp2 => ?_⟩
      refine k' p2 _ ((s1.trans (s19.trans s10)).trans ((same_new hp).trans (same_new hp2))) ?_
      rw [upd_same, hv]
    refine ⟨_, rfl, f, A.c_Form, d8, _, _, rfl, hf8, T.l_Form, T.n_Form_channels, rfl, _, _, rfl, rfl, (by show (0 : Int) < 2; decide), rfl, _, rfl, ?_⟩
    by_cases hodd : F.channels % 2 = 1
    · rw [decide_eq_true (show V.int (((F.channels : Nat) : Int) % 2) = V.int 1 by congr 1; omega)]
      refine iteT ?_
      obtain ⟨asl, al, l1, l2, l3, l4, l5, hasl⟩ := (hCh.same s18).at (i := F.channels - 1) (by rw [chans_len]; omega)
      rw [chans_get (by omega)] at l3 l4 l5
      rw [chans_len] at hasl
      refine ⟨_, rfl, _, rfl, f, A.c_Form, d8, _, _, rfl, hf8, T.l_Form, T.n_Form_depth, rfl, _, rfl, f, A.c_Form, d8, _, _, rfl, hf8, T.l_Form, T.n_Form_order, rfl, _, rfl, 1, rfl, D, _, _, _, rfl, rfl, l1, atI_last (by rw [List.length_map, hasl]; exact l2) (by rw [List.length_map]; omega), F.depth, F.order, al, _, rfl, l3, ⟨by omega, by omega, ho⟩, l5, ⟨by omega, by omega⟩, fun xl H9 s9 hPl => ?_⟩
      have gl := part_good (wd := F.depth) (o := F.order) (by omega) (by omega) ho l5 (by omega) (by omega)
      have hw9 : IsWr A.c_BitWriter H9 x (headBits kk n ++ Mb ++ Qs.flatMap fun q => pBits q.2.1 ++ pBits q.2.2) := by
        obtain ⟨d9, h9⟩ := hw8
        exact ⟨d9, s9 _ _ h9⟩
      refine ⟨x, xl, _, _, rfl, hw9, hPl, gl.1, by unfold MANY; rw [List.length_append, List.length_append, gl.2.1]; have := gl.2.2; omega, fun H10 hb10 hw10 => ?_⟩
      refine tail _ _ _ _ _ _ H10 (But.same hx1 (s18.trans s9) hb10) ?_ (fun D H' s h => k D H' s h)
      unfold fBits oddBits
      rw [if_pos hodd, hQs, hMb]
      exact hw10
    · rw [decide_eq_false (show ¬ V.int (((F.channels : Nat) : Int) % 2) = V.int 1 from fun z => hodd (by have := V.int.inj z; omega))]
      refine iteF ?_
      refine tail _ _ _ _ _ _ H8 s18 ?_ (fun D H' s h => k D H' s h)
      unfold fBits oddBits
      rw [if_neg hodd, hQs, hMb, List.append_nil]
      exact hw8
theorem fitsP_eq {W : Nat} (h : 1 ≤ W) (n : Int) : fitsP (W : Int) n = Sound.fits W n := by
  unfold fitsP Sound.fits
  have : ((W : Int) - 1).toNat = W - 1 := by omega
  rw [this]
def nats' (l : List Int) : List Nat := l.map Int.toNat
theorem frame_none {k : Int} {fm s : List Int} (h : Sound.formOf (nats' fm) = none) : PyWqaubg.frame k fm s = [-1] := by
  show Sound.ofForm (nats' fm) _ = _
  unfold Sound.ofForm
  rw [h]; rfl
theorem frame_some {k : Int} {fm s : List Int} {F : Sound.Form} (h : Sound.formOf (nats' fm) = some F) : PyWqaubg.frame k fm s = match Sound.samplesOf F s with
    | none => [-1]
    | some n => if n < 1 ∨ F.block < n ∨ 2 ^ 20 ≤ k.toNat then [-1] else if Sound.allFit F.depth s = false then [-2] else Sound.gives (Sound.frame F k.toNat s) := by
  show Sound.ofForm (nats' fm) _ = _
  unfold Sound.ofForm
  rw [h]; rfl
theorem form_is {l : List Nat} {F : Sound.Form} (h : Sound.formOf l = some F) : l = [F.channels, F.depth, F.block, F.order, F.group, F.spare] ∧ (1 ≤ F.channels ∧ F.channels ≤ 4) ∧ (4 ≤ F.depth ∧ F.depth ≤ 24) ∧ (16 ≤ F.block ∧ F.block ≤ 256) ∧ F.order ≤ 4 := by
  unfold Sound.formOf at h
  split at h
  · simp only at h
    split at h
    · rename_i hok
      cases h
      unfold Sound.Form.ok at hok
      simp only [Bool.and_eq_true, decide_eq_true_eq] at hok
      refine ⟨rfl, ?_⟩
      simp only
      omega
    · cases h
  · cases h
def spFrame (K : PySem.W.Frag) : Sp := fun vs H Q _ => ∃ (k : Int) (b a : Addr) (fm s : List Int), vs = [.int k, .ref b, .ref a] ∧ SqL K H b (fm.map V.int) ∧ SqL K H a (s.map V.int) ∧ (0 ≤ k ∧ k ≤ 4294967295) ∧ (∀ z ∈ fm, 0 ≤ z) ∧ fm.length ≤ 8 ∧ s.length ≤ 1024 ∧ ∀ (H' : Hp) (p : Addr), H' p = some (.lst ((PyWqaubg.frame k fm s).map V.int)) → Q (.ref p) H'
theorem same_noneB {H H' : Hp} {b : Addr} (s : Same H H') (h : H' b = none) : H b = none := by
  cases q : H b with
  | none => rfl
  | some o => rw [s b o q] at h; cases h
def spCounted (K : PySem.W.Frag) : Sp := fun vs H Q _ => ∃ (q : Addr) (xs : List V), vs = [.ref q] ∧ SqL K H q xs ∧ xs.length ≤ 10000000 ∧ ∀ D H', H D = none → Same H H' → H' D = some (.lst (.int (xs.length : Nat) :: xs)) → Q (.ref D) H'
theorem sc_counted : FnScope ["data"] ["data"] (defScope s_counted) := ⟨rfl, rfl, rfl, by decide +kernel, rfl, by decide +kernel, by decide +kernel⟩
theorem ok_counted (T : Txt K mg A) : FnOk P w K mg base CX0 1 A.f_counted A.d_counted ["data"] (spCounted K) := by
  refine T.F_counted.ok sc_counted (fun vs H Q E h => ?_) (fun cdv Ar outer s H vs Q E hr h => ?_)
  · obtain ⟨q, l, rfl, _⟩ := h
    rfl
  · obtain ⟨q, l, rfl, hq, hl, k⟩ := h
    refine ⟨_, pss_one (ps_ret (pe_op op_catS (pe_lst (pa_cons (pe_callB call_len_seq (by rfl) T.z_len PySem.boot_len (pa_cons (pv 0) pa_nil)) pa_nil)) (pv 0))), ?_⟩
    refine ⟨_, rfl, q, _, rfl, .inl hq, by rw [sizeLine_eq]; show 1 ≤ _; omega, fun p hp => ?_⟩
    refine ⟨_, rfl, p, q, _, _, rfl, rfl, SqL.of upd_same, (same_new hp).seq hq, (by rw [sizeLine_eq]; show 1 + _ ≤ _; omega), fun p2 hp2 => ?_⟩
    have n2 : H p2 = none := same_noneB (same_new hp) hp2
    exact k p2 _ n2 (same_keep (same_new hp) n2) upd_same
theorem sc_frame : FnScope ["k", "form", "numbers", "shape"] ["k", "form", "numbers"] (defScope s_frame) := ⟨rfl, rfl, rfl, by decide +kernel, rfl, by decide +kernel, by decide +kernel⟩
theorem vN_nats {fm : List Int} (h : ∀ z ∈ fm, 0 ≤ z) : fm.map V.int = vN (nats' fm) := by
  unfold vN nats'
  rw [List.map_map]
  refine List.map_congr_left fun z hz => ?_
  have := h z hz
  show V.int z = V.int (z.toNat : Nat)
  congr 1; omega
theorem gives_vals (b : Sound.Bytes) : (Sound.gives b).map V.int = V.int ((vN (b.map UInt8.toNat)).length : Nat) :: vN (b.map UInt8.toNat) := by
  unfold Sound.gives Sound.nats
  rw [List.map_map, List.map_cons, vN_len, List.length_map]
  rfl
theorem ok_frame (T : Txt K mg A) : FnOk P w K mg base CX0 11 A.f_frame A.d_frame ["k", "form", "numbers"] (spFrame K) := by
  refine T.F_frame.ok sc_frame (fun vs H Q E h => ?_) (fun cdv Ar outer s H vs Q E hr h => ?_)
  · obtain ⟨k, b, a, fm, s, rfl, _⟩ := h
    rfl
  · obtain ⟨ki, b, a, fm, ns, rfl, hb, ha, ⟨hk0, hk1⟩, hfm, hfl, hnl, k⟩ := h
    obtain ⟨kk, rfl⟩ : ∃ kk : Nat, ki = (kk : Int) := ⟨ki.toNat, by omega⟩
    have hr1 : Room 1 _ := hr.mono (by decide)
    have hr2 : Room 2 _ := hr.mono (by decide)
    refine ⟨_, pss_cons (ps_if (PW.pt (pw_or (pt_not (pt_val (pe_call (ok_is_form T) hr1 rfl T.m_is_form T.F_is_form.kp T.b_is_form .nil pass0 (pa_cons (pv 1) pa_nil)))) (pw_or1 (pt_cmpR op_ge (pv 0) (pe_gi rfl T.g_FRAME_NUMBERS) (nomark _))))) (pss_one (ps_ret (pe_lst (pa_cons (pe_un un_neg pe_int) pa_nil)))) pss_nil)
      (pss_cons (ps_set (i := 3) sc_frame.nd rfl (Or.inl rfl) (pe_make T.k_Form (ok_Form_init T) hr2 rfl T.m_Form T.b_Form_init .nil pass0 (pa_cons (pv 1) pa_nil)))
      (pss_cons (ps_if (PW.pt (pw_or (pt_cmpR op_ne (pe_op op_mod (pe_callB call_len_seq (by rfl) T.z_len PySem.boot_len (pa_cons (pv 2) pa_nil)) (pe_fld (pv 3) rfl)) pe_int (nomark _)) (pw_or1 (pt_not (pt_chain op_le op_le pe_int (pe_op op_fdiv (pe_callB call_len_seq (by rfl) T.z_len PySem.boot_len (pa_cons (pv 2) pa_nil)) (pe_fld (pv 3) rfl)) (pe_fld (pv 3) rfl)))))) (pss_one (ps_ret (pe_lst (pa_cons (pe_un un_neg pe_int) pa_nil)))) pss_nil)
      (pss_cons (ps_if (pt_not (pt_val (pe_call (ok_all_fit T) hr2 rfl T.m_all_fit T.F_all_fit.kp T.b_all_fit .nil pass0 (pa_cons (pe_fld (pv 3) rfl) (pa_cons (pv 2) pa_nil))))) (pss_one (ps_ret (pe_lst (pa_cons (pe_un un_neg pe_int) pa_nil)))) pss_nil)
      (pss_one (ps_ret (pe_call (ok_counted T) hr1 rfl T.m_counted T.F_counted.kp T.b_counted .nil pass0 (pa_cons (pe_call (ok_write_frame T) hr rfl T.m_write_frame T.F_write_frame.kp T.b_write_frame .nil pass0 (pa_cons (pv 3) (pa_cons (pv 0) (pa_cons (pv 2) pa_nil)))) pa_nil))))))), ?_⟩
    rw [vN_nats hfm] at hb
    have w1 : PyWqaubg.frame (kk : Int) fm ns = [-1] → ∀ Hh p, Q (.ref p) (upd Hh p (.lst [V.int (-1)])) := fun h Hh p => k _ p (by rw [upd_same, h]; rfl)
    have w2 : PyWqaubg.frame (kk : Int) fm ns = [-2] → ∀ Hh p, Q (.ref p) (upd Hh p (.lst [V.int (-2)])) := fun h Hh p => k _ p (by rw [upd_same, h]; rfl)
    refine ⟨_, rfl, b, _, rfl, hb, fun H1 s1 => ⟨_, rfl, ?_⟩⟩
    cases hform : Sound.formOf (nats' fm) with
    | none =>
      refine iteT (iteT ⟨1, rfl, (by show 1 ≤ sizeLine; decide), fun p hp => w1 (frame_none hform) _ p⟩)
    | some F =>
      obtain ⟨hl6, ⟨hc1, hc4⟩, ⟨hd1, hd2⟩, ⟨hb1, hb2⟩, ho⟩ := form_is hform
      have hfr := frame_some (k := (kk : Int)) (s := ns) hform
      rw [Int.toNat_natCast] at hfr
      refine iteF ?_
      refine ⟨_, rfl, _, _, rfl, rfl, _, rfl, ?_⟩
      refine ite2 (fun hge => ?_) fun hlt => ?_
      · have hge : (1048576 : Int) ≤ (kk : Nat) := of_decide_eq_true hge
        refine ⟨1, rfl, (by show 1 ≤ sizeLine; decide), fun p hp => w1 ?_ _ p⟩
        rw [hfr]
        split
        · rfl
        · rw [if_pos (.inr (.inr (by show 1048576 ≤ kk; omega)))]
      have hlt : ¬ (1048576 : Int) ≤ (kk : Nat) := fun z => hlt (decide_eq_true z)
      have hk20 : kk < 2 ^ 20 := by show kk < 1048576; omega
      refine ⟨_, rfl, ?_⟩
      intro x dx hx hdx hne
      have sm : Same H1 (upd (upd H1 dx (.own x)) x (.ins A.c_Form dx [])) := same_made hx hdx
      rw [hl6] at hb
      refine ⟨x, dx, b, F.channels, F.depth, F.block, F.order, F.group, F.spare, rfl, upd_same, sm.seq (s1.seq hb), fun H2 kp hx2 => ⟨rfl, ?_⟩⟩
      have s12 : Same H1 H2 := Same.made hx hdx kp
      have s02 : Same H H2 := s1.trans s12
      have ha2 := s02.seq ha
      have hlen : ((ns.map V.int).length : Nat) = ns.length := List.length_map ..
      refine ⟨_, rfl, a, _, rfl, .inl ha2, _, rfl, x, A.c_Form, dx, _, _, rfl, hx2, T.l_Form, T.n_Form_channels, rfl, _, _, rfl, rfl, (by show (0 : Int) < (F.channels : Nat); omega), rfl, _, rfl, ?_⟩
      rw [hlen]
      by_cases hm : ns.length % F.channels = 0
      · have em : V.int (((ns.length : Nat) : Int) % ((F.channels : Nat) : Int)) = V.int 0 := by congr 1; rw [← Int.natCast_emod, hm]; rfl
        rw [decide_eq_true em]
        refine iteF ?_
        have hsam : Sound.samplesOf F ns = some (ns.length / F.channels) := by unfold Sound.samplesOf; rw [if_pos hm]
        rw [hsam] at hfr
        simp only at hfr
        have hln : ns.length = F.channels * (ns.length / F.channels) := by have := Nat.div_add_mod ns.length F.channels; omega
        have hdv : ((ns.length : Nat) : Int) / ((F.channels : Nat) : Int) = ((ns.length / F.channels : Nat) : Int) := by rw [← Int.natCast_ediv]
        generalize ns.length / F.channels = n at *
        refine ⟨_, rfl, a, _, rfl, .inl ha2, _, rfl, x, A.c_Form, dx, _, _, rfl, hx2, T.l_Form, T.n_Form_channels, rfl, _, _, rfl, rfl, ⟨by show (0 : Int) < (F.channels : Nat); omega, by omega⟩, _, _, rfl, rfl, _, rfl, ?_⟩
        rw [hlen, hdv]
        by_cases c3 : (1 : Int) ≤ (n : Nat)
        · rw [decide_eq_true c3]
          refine iteT ⟨_, rfl, x, A.c_Form, dx, _, _, rfl, hx2, T.l_Form, T.n_Form_block, rfl, _, _, rfl, rfl, _, rfl, ?_⟩
          by_cases c4 : ((n : Nat) : Int) ≤ (F.block : Nat)
          · rw [hdv, decide_eq_true c4]
            refine iteF ?_
            rw [if_neg (by rintro (z | z | z) <;> omega)] at hfr
            have ef : ns.all (fitsP ((F.depth : Nat) : Int)) = Sound.allFit F.depth ns := by
              unfold Sound.allFit
              congr 1
              funext z
              exact fitsP_eq (by omega) z
            refine ⟨_, rfl, x, A.c_Form, dx, _, _, rfl, hx2, T.l_Form, T.n_Form_depth, rfl, _, rfl, ((F.depth : Nat) : Int), a, ns, rfl, ha2, ⟨by omega, by omega⟩, hnl, fun H3 s3 => ⟨_, rfl, ?_⟩⟩
            rw [ef]
            cases hA : Sound.allFit F.depth ns with
            | false =>
              rw [if_pos hA] at hfr
              refine iteT ⟨2, rfl, (by show 1 ≤ sizeLine; decide), fun p hp => w2 hfr _ p⟩
            | true =>
              rw [if_neg (by rw [hA]; decide)] at hfr
              refine iteF ?_
              have hfit : FitAll F.depth ns := fun z hz => by
                have := List.all_eq_true.mp hA z hz
                unfold Sound.fits at this
                simpa using this
              refine ⟨_, rfl, _, rfl, _, rfl, x, a, F, kk, n, ns, rfl, ⟨dx, _, _, s3 _ _ hx2⟩, s3.seq ha2, ⟨hc1, hc4⟩, ⟨hd1, hd2, ho⟩, ⟨hln, by omega, by omega⟩, hfit, hk20, fun W H4 s4 hW => ?_⟩
              have hsz : (vN ((Sound.frame F kk ns).map UInt8.toNat)).length ≤ 10000000 := by
                rw [vN_len]
                exact frame_small hc1 hc4 hd1 hd2 ho hln (by omega) (by omega) hfit
              refine ⟨W, _, rfl, SqL.of hW, hsz, fun D3 H5 hD3 s5 x5 => k _ D3 ?_⟩
              rw [x5, hfr, gives_vals]
          · rw [hdv, decide_eq_false c4]
            refine iteT ⟨1, rfl, (by show 1 ≤ sizeLine; decide), fun p hp => w1 ?_ _ p⟩
            rw [hfr, if_pos (.inr (.inl (by omega)))]
        · rw [decide_eq_false c3]
          refine iteF ⟨_, rfl, iteT ⟨1, rfl, (by show 1 ≤ sizeLine; decide), fun p hp => w1 ?_ _ p⟩⟩
          rw [hfr, if_pos (.inl (by omega))]
      · have em : ¬ V.int (((ns.length : Nat) : Int) % ((F.channels : Nat) : Int)) = V.int 0 := fun z => hm (by have := V.int.inj z; rw [← Int.natCast_emod] at this; omega)
        rw [decide_eq_false em]
        refine iteT (iteT ⟨1, rfl, (by show 1 ≤ sizeLine; decide), fun p hp => w1 ?_ _ p⟩)
        rw [hfr]
        unfold Sound.samplesOf
        rw [if_neg hm]
end
end Wg
namespace PySem.W.Fast
theorem tw3899714087444718375:True:=⟨⟩
theorem tw8241559481389999321:True:=⟨⟩
theorem tw16757917237034587591:True:=⟨⟩
theorem tw12924312319023690681:True:=⟨⟩
theorem tw13965008047699367549:True:=⟨⟩
theorem tw18309296739564139787:True:=⟨⟩
theorem tw12361119516725017261:True:=⟨⟩
theorem tw6825319489758035295:True:=⟨⟩
theorem tw14624280103084407668:True:=⟨⟩
theorem tw10595682036106784395:True:=⟨⟩
theorem tw5186970290628311503:True:=⟨⟩
theorem tw8305219185976058728:True:=⟨⟩
theorem tw1555220786374889070:True:=⟨⟩
theorem tw2271368493489014740:True:=⟨⟩
theorem tw13573501785281229268:True:=⟨⟩
theorem tw626804242093297159:True:=⟨⟩
theorem tw16426489821356001876:True:=⟨⟩
theorem tw1814055942039234181:True:=⟨⟩
theorem tw10139649580824690947:True:=⟨⟩
theorem tw11296516273205397142:True:=⟨⟩
theorem tw8679761459680092860:True:=⟨⟩
theorem tw4568804405795303771:True:=⟨⟩
theorem tw8498615784766644970:True:=⟨⟩
theorem tw11184646912449465588:True:=⟨⟩
theorem tw5596820535719158489:True:=⟨⟩
theorem tw10096413074017790700:True:=⟨⟩
theorem tw1228376582706480214:True:=⟨⟩
theorem tw13834271025725025559:True:=⟨⟩
theorem tw7056475227149892157:True:=⟨⟩
theorem tw17422548736903958610:True:=⟨⟩
theorem tw15916657724063632257:True:=⟨⟩
theorem tw7016048306959763364:True:=⟨⟩
theorem tw577924486615243435:True:=⟨⟩
theorem tw8850719016223460697:True:=⟨⟩
theorem tw10926363181320487056:True:=⟨⟩
theorem tw5029122302161475029:True:=⟨⟩
theorem tw3968105366073071548:True:=⟨⟩
theorem tw16294740329057743042:True:=⟨⟩
theorem tw3400903425111212264:True:=⟨⟩
theorem tw6653899002894992023:True:=⟨⟩
theorem tw13387240560917647288:True:=⟨⟩
theorem tw14024369232750709147:True:=⟨⟩
theorem tw18182920058890623960:True:=⟨⟩
theorem tw7045499789717361378:True:=⟨⟩
theorem tw17999160460097639517:True:=⟨⟩
theorem tw3906334962948201197:True:=⟨⟩
theorem tw11148375485541312485:True:=⟨⟩
theorem tw10391198490941619412:True:=⟨⟩
theorem tw6346437312452729249:True:=⟨⟩
theorem tw16152408109860842061:True:=⟨⟩
theorem tw9504233086675637992:True:=⟨⟩
theorem tw12130203458049007320:True:=⟨⟩
theorem tw10042945367594219321:True:=⟨⟩
theorem tw3405642485961338197:True:=⟨⟩
theorem tw10196414001323137484:True:=⟨⟩
theorem tw10487707771606050135:True:=⟨⟩
theorem tw16356467140358005361:True:=⟨⟩
theorem tw6482234361499867119:True:=⟨⟩
theorem tw2535058734768642776:True:=⟨⟩
theorem tw5602377140540242716:True:=⟨⟩
theorem tw16785667238324629783:True:=⟨⟩
theorem tw14773169928016896427:True:=⟨⟩
theorem tw13728466995908823844:True:=⟨⟩
theorem tw11349571710609469391:True:=⟨⟩
theorem tw2207271827185521653:True:=⟨⟩
theorem tw16298834064093702102:True:=⟨⟩
theorem tw4698008140950355152:True:=⟨⟩
theorem tw11893161441710757555:True:=⟨⟩
theorem tw7862598024280993779:True:=⟨⟩
theorem tw2611166486535958597:True:=⟨⟩
theorem tw12909678809404587710:True:=⟨⟩
theorem tw15890648002337492413:True:=⟨⟩
theorem tw2330882074504781688:True:=⟨⟩
theorem tw1103562124641953178:True:=⟨⟩
theorem tw16317627804685979080:True:=⟨⟩
theorem tw11590246347151133695:True:=⟨⟩
theorem tw13362641020860801030:True:=⟨⟩
theorem tw9046003782974157622:True:=⟨⟩
theorem tw8298920071406682964:True:=⟨⟩
theorem tw5449256484250422565:True:=⟨⟩
theorem tw1302292087343804653:True:=⟨⟩
theorem tw11633133001963677756:True:=⟨⟩
theorem tw13719901478337963202:True:=⟨⟩
theorem tw1774202454008128876:True:=⟨⟩
theorem tw7917106822467350925:True:=⟨⟩
theorem tw16351152467887952060:True:=⟨⟩
theorem tw6994641471019092039:True:=⟨⟩
theorem tw17346875163074449519:True:=⟨⟩
theorem tw6306687188110774912:True:=⟨⟩
theorem tw7715971663724964477:True:=⟨⟩
theorem tw9713242507375607613:True:=⟨⟩
theorem tw3707460195522437170:True:=⟨⟩
theorem tw16342943225319746243:True:=⟨⟩
theorem tw14900064184111240201:True:=⟨⟩
theorem tw6307935267761683369:True:=⟨⟩
theorem tw16923010960071943557:True:=⟨⟩
theorem tw2775164367473267140:True:=⟨⟩
theorem tw2377884262466778277:True:=⟨⟩
theorem tw7863313494586725368:True:=⟨⟩
theorem tw17063943198852861802:True:=⟨⟩
theorem tw13936814654516587645:True:=⟨⟩
theorem tw11092193475514584378:True:=⟨⟩
theorem tw7595156910344922039:True:=⟨⟩
theorem tw16110183593537482118:True:=⟨⟩
theorem tw10205151895027030763:True:=⟨⟩
theorem tw14612648827195406473:True:=⟨⟩
theorem tw2021956308811080362:True:=⟨⟩
theorem tw4714531926871075173:True:=⟨⟩
theorem tw17745790627807471880:True:=⟨⟩
theorem tw12759963069660419449:True:=⟨⟩
theorem tw17648265580746345795:True:=⟨⟩
theorem tw13120632759602455844:True:=⟨⟩
theorem tw2364173266236321642:True:=⟨⟩
theorem tw1995916116467883143:True:=⟨⟩
theorem tw7419724588589785323:True:=⟨⟩
theorem tw4161172101104498510:True:=⟨⟩
theorem tw9224245452387860145:True:=⟨⟩
theorem tw13849958809772372234:True:=⟨⟩
theorem tw16219855550936505736:True:=⟨⟩
theorem tw9424616574033714957:True:=⟨⟩
theorem tw5253380863231707959:True:=⟨⟩
theorem tw2221802721428737702:True:=⟨⟩
theorem tw17017044558101521438:True:=⟨⟩
theorem tw3503897248975208219:True:=⟨⟩
theorem tw14088112115098339166:True:=⟨⟩
theorem tw8105017283025474289:True:=⟨⟩
theorem tw11641887479238968957:True:=⟨⟩
theorem tw7281399544540242291:True:=⟨⟩
theorem tw2414023629720853608:True:=⟨⟩
theorem tw11455866721619347343:True:=⟨⟩
theorem tw4246189463081585018:True:=⟨⟩
theorem tw9328351448683698954:True:=⟨⟩
theorem tw3670693363075738475:True:=⟨⟩
theorem tw3345569671068895867:True:=⟨⟩
theorem tw16311760096371395751:True:=⟨⟩
theorem tw8356913530711641836:True:=⟨⟩
theorem tw12305981079018725521:True:=⟨⟩
theorem tw8829227511515130976:True:=⟨⟩
theorem tw13358213837776597972:True:=⟨⟩
theorem tw4395070746339416981:True:=⟨⟩
theorem tw4965968935276690987:True:=⟨⟩
theorem tw10241370020631243148:True:=⟨⟩
theorem tw10795672999724469759:True:=⟨⟩
theorem tw1401219079450581862:True:=⟨⟩
theorem tw5776062024714613730:True:=⟨⟩
theorem tw2460251510175979644:True:=⟨⟩
theorem tw16970885321370907878:True:=⟨⟩
theorem tw9328722577229049423:True:=⟨⟩
theorem tw18394545192232863620:True:=⟨⟩
theorem tw3606236565630305763:True:=⟨⟩
theorem tw13387014875646187948:True:=⟨⟩
theorem tw1497360528683867793:True:=⟨⟩
theorem tw6867633705877340077:True:=⟨⟩
theorem tw16390480008785762283:True:=⟨⟩
theorem tw9626051476454957476:True:=⟨⟩
theorem tw9697816736890043672:True:=⟨⟩
theorem tw7114420765368908720:True:=⟨⟩
theorem tw17664979872790049270:True:=⟨⟩
theorem tw9017259553455641421:True:=⟨⟩
theorem tw12245357621613940542:True:=⟨⟩
theorem tw6724666492377524227:True:=⟨⟩
theorem tw4940740093005524357:True:=⟨⟩
theorem tw1763853276548838581:True:=⟨⟩
theorem tw5864479654136658609:True:=⟨⟩
theorem tw6117982327989741324:True:=⟨⟩
theorem tw8552013056784075781:True:=⟨⟩
theorem tw953674939715911972:True:=⟨⟩
theorem tw16470517280878649097:True:=⟨⟩
theorem tw8800629666062635843:True:=⟨⟩
theorem tw16311311275879752648:True:=⟨⟩
theorem tw15978176673648882844:True:=⟨⟩
theorem tw4699603948961046992:True:=⟨⟩
theorem tw14285960171824402993:True:=⟨⟩
theorem tw3299074547898790264:True:=⟨⟩
theorem tw2161567542079052032:True:=⟨⟩
theorem tw999841686152389784:True:=⟨⟩
theorem tw10922162928076116525:True:=⟨⟩
theorem tw10930686441518427258:True:=⟨⟩
theorem tw3608878217313197128:True:=⟨⟩
theorem tw16016484671069508006:True:=⟨⟩
theorem tw16379337411733915101:True:=⟨⟩
theorem tw6051413365498059744:True:=⟨⟩
theorem tw7673120221707465145:True:=⟨⟩
theorem tw12046469564209914556:True:=⟨⟩
theorem tw9970129402350929948:True:=⟨⟩
theorem tw13143130218309219269:True:=⟨⟩
theorem tw14234651036074977594:True:=⟨⟩
theorem tw8450222714527595220:True:=⟨⟩
theorem tw14450619304001418630:True:=⟨⟩
theorem tw17780578354645483572:True:=⟨⟩
theorem tw2582970450404629360:True:=⟨⟩
theorem tw13333494669409906801:True:=⟨⟩
theorem tw2469362917589185995:True:=⟨⟩
theorem tw5327209962134320572:True:=⟨⟩
theorem tw6647359896831618266:True:=⟨⟩
theorem tw15093052730454948830:True:=⟨⟩
theorem tw11812627226643002216:True:=⟨⟩
theorem tw11980427733901127630:True:=⟨⟩
theorem tw16755654974038480366:True:=⟨⟩
theorem tw2412098095304754591:True:=⟨⟩
theorem tw16202804863792949891:True:=⟨⟩
theorem tw13673760688047202795:True:=⟨⟩
theorem tw1696589738636733280:True:=⟨⟩
theorem tw16169959106320057250:True:=⟨⟩
theorem tw224743409505166829:True:=⟨⟩
theorem tw405803373290806184:True:=⟨⟩
theorem tw8833227311482214768:True:=⟨⟩
theorem tw3721343359805128157:True:=⟨⟩
theorem tw6101596210702593407:True:=⟨⟩
theorem tw15617671853723661142:True:=⟨⟩
theorem tw12850387917535938280:True:=⟨⟩
theorem tw13631376871049536122:True:=⟨⟩
theorem tw12107028751540534634:True:=⟨⟩
theorem tw9724839354319133587:True:=⟨⟩
theorem tw2971896314923525347:True:=⟨⟩
theorem tw15230833892174084051:True:=⟨⟩
theorem tw17295687461129570048:True:=⟨⟩
theorem tw7036999160323272229:True:=⟨⟩
theorem tw2053113883138166764:True:=⟨⟩
theorem tw2650517784974901042:True:=⟨⟩
theorem tw3256285289891645423:True:=⟨⟩
theorem tw10411315302598053623:True:=⟨⟩
theorem tw17628527479626051793:True:=⟨⟩
theorem tw1940498386360650893:True:=⟨⟩
theorem tw15202191097323764687:True:=⟨⟩
theorem tw13193315728036161844:True:=⟨⟩
theorem tw8647479062725149685:True:=⟨⟩
theorem tw9835697865298671701:True:=⟨⟩
theorem tw4758797655896908453:True:=⟨⟩
theorem tw17381575609323532438:True:=⟨⟩
theorem tw12776231192044737245:True:=⟨⟩
theorem tw14195112120501184279:True:=⟨⟩
theorem tw3325390510287088175:True:=⟨⟩
theorem tw14525222668580848105:True:=⟨⟩
theorem tw7713803922110277374:True:=⟨⟩
theorem tw15226571685755170428:True:=⟨⟩
theorem tw1078005134994433850:True:=⟨⟩
theorem tw8071660296056844010:True:=⟨⟩
theorem tw2863865491243819221:True:=⟨⟩
theorem tw17667520270627600861:True:=⟨⟩
theorem tw7835584143506789891:True:=⟨⟩
theorem tw15923650096678639732:True:=⟨⟩
theorem tw3767089515126888011:True:=⟨⟩
theorem tw8131942398831676266:True:=⟨⟩
theorem tw11792140138147182068:True:=⟨⟩
theorem tw16558979540869518736:True:=⟨⟩
theorem tw9899639189671637374:True:=⟨⟩
theorem tw1911502458604210689:True:=⟨⟩
theorem tw13460990576426802363:True:=⟨⟩
theorem tw2483636051045984125:True:=⟨⟩
theorem tw17756120821459119489:True:=⟨⟩
theorem tw14359846865624183686:True:=⟨⟩
theorem tw2690810628042635875:True:=⟨⟩
theorem tw11063112551933894781:True:=⟨⟩
theorem tw10963869705257079962:True:=⟨⟩
theorem tw1772719746558316434:True:=⟨⟩
theorem tw3541076750395010697:True:=⟨⟩
theorem tw7402493308382405898:True:=⟨⟩
theorem tw319685199174880942:True:=⟨⟩
theorem tw18242930328396419982:True:=⟨⟩
theorem tw3906007987835109752:True:=⟨⟩
theorem tw3846174922481974502:True:=⟨⟩
theorem tw6152067532339606077:True:=⟨⟩
theorem tw11996882578076338621:True:=⟨⟩
theorem tw535237433839018682:True:=⟨⟩
theorem tw298094093962483693:True:=⟨⟩
theorem tw10542478142692149303:True:=⟨⟩
theorem tw6759533642103413172:True:=⟨⟩
theorem tw10093736836296908572:True:=⟨⟩
theorem tw945303243234227462:True:=⟨⟩
theorem tw3474751346017296019:True:=⟨⟩
theorem tw4346783300910865642:True:=⟨⟩
theorem tw1855158130496224397:True:=⟨⟩
theorem tw1717890436806623043:True:=⟨⟩
theorem tw3060161541111694448:True:=⟨⟩
theorem tw3710042503034659700:True:=⟨⟩
theorem tw6414234709132279938:True:=⟨⟩
theorem tw2357525799947496157:True:=⟨⟩
theorem tw9273621175493112360:True:=⟨⟩
theorem tw6240528528739965881:True:=⟨⟩
theorem tw8794616635607979799:True:=⟨⟩
theorem tw6790360332512004264:True:=⟨⟩
theorem tw10462432028607084610:True:=⟨⟩
theorem tw2836076617702049691:True:=⟨⟩
theorem tw13068805210711116382:True:=⟨⟩
theorem tw4018686669011586936:True:=⟨⟩
theorem tw12006122051398184662:True:=⟨⟩
theorem tw13539606008738493601:True:=⟨⟩
theorem tw13507931861062085831:True:=⟨⟩
theorem tw861788231702340346:True:=⟨⟩
theorem tw5932169922619965976:True:=⟨⟩
theorem tw5800445802825336323:True:=⟨⟩
theorem tw13191580500756668779:True:=⟨⟩
theorem tw11772302705247975174:True:=⟨⟩
theorem tw4595989730720473276:True:=⟨⟩
theorem tw11102895806150211765:True:=⟨⟩
theorem tw10254118459815044393:True:=⟨⟩
theorem tw5458034689115964376:True:=⟨⟩
theorem tw8665939903780296392:True:=⟨⟩
theorem tw3061126411879780519:True:=⟨⟩
theorem tw4176255406342467935:True:=⟨⟩
theorem tw1971110010587237280:True:=⟨⟩
theorem tw13084056229447218341:True:=⟨⟩
theorem tw13387176751227922896:True:=⟨⟩
theorem tw15144837218970006751:True:=⟨⟩
theorem tw5323127863018346753:True:=⟨⟩
theorem tw6333744447339825199:True:=⟨⟩
theorem tw10324746385673446562:True:=⟨⟩
theorem tw540296867894206191:True:=⟨⟩
theorem tw7587317045176164091:True:=⟨⟩
theorem tw4178980600494356318:True:=⟨⟩
theorem tw2416497977278928863:True:=⟨⟩
theorem tw8819779039483325093:True:=⟨⟩
theorem tw535378029030478428:True:=⟨⟩
theorem tw2130082120998588233:True:=⟨⟩
theorem tw6661137748114807739:True:=⟨⟩
theorem tw6563679050737155542:True:=⟨⟩
theorem tw14302152423845194325:True:=⟨⟩
theorem tw7107417681560236046:True:=⟨⟩
theorem tw12664643433930309547:True:=⟨⟩
theorem tw10217048878810998061:True:=⟨⟩
theorem tw3700540976697919010:True:=⟨⟩
theorem tw5357820747232188507:True:=⟨⟩
theorem tw12723620665833305496:True:=⟨⟩
theorem tw3954962938212188814:True:=⟨⟩
theorem tw13114891041972838993:True:=⟨⟩
theorem tw17173657926228645819:True:=⟨⟩
theorem tw8793363002824525878:True:=⟨⟩
theorem tw17112564959303809:True:=⟨⟩
theorem tw14479554418694347956:True:=⟨⟩
theorem tw8901337280245711560:True:=⟨⟩
theorem tw15155759433266622955:True:=⟨⟩
theorem tw9115637078087931161:True:=⟨⟩
theorem tw10393803981260520116:True:=⟨⟩
theorem tw13769137082066535065:True:=⟨⟩
theorem tw5275277661608538392:True:=⟨⟩
theorem tw4472045701267248576:True:=⟨⟩
theorem tw11215723766013594474:True:=⟨⟩
theorem tw17789776205350172601:True:=⟨⟩
theorem tw15712720038292172096:True:=⟨⟩
theorem tw3976520238010820337:True:=⟨⟩
theorem tw5676603827476224957:True:=⟨⟩
theorem tw15878932114553989781:True:=⟨⟩
theorem tw17046698761553521896:True:=⟨⟩
theorem tw3629087829952678881:True:=⟨⟩
theorem tw6200244351292341222:True:=⟨⟩
theorem tw6462146278765229583:True:=⟨⟩
theorem tw13822936180323332825:True:=⟨⟩
theorem tw15897713741872958898:True:=⟨⟩
theorem tw4322841610699502166:True:=⟨⟩
theorem tw11389777981945606308:True:=⟨⟩
theorem tw17135064273958412525:True:=⟨⟩
theorem tw3038325528560662906:True:=⟨⟩
theorem tw2886508283783078024:True:=⟨⟩
theorem tw3869835914367013851:True:=⟨⟩
theorem tw8196693584288294273:True:=⟨⟩
theorem tw11135523332484340319:True:=⟨⟩
theorem tw1103062622862711130:True:=⟨⟩
theorem tw13012132175110154164:True:=⟨⟩
theorem tw15650333048185638139:True:=⟨⟩
theorem tw18126216445383611595:True:=⟨⟩
theorem tw4034024946659227497:True:=⟨⟩
theorem tw14706390747374220194:True:=⟨⟩
theorem tw2131465722475621312:True:=⟨⟩
theorem tw4099086852357016157:True:=⟨⟩
theorem tw12855157941194929478:True:=⟨⟩
theorem tw7322636710033902562:True:=⟨⟩
theorem tw16721935245982260088:True:=⟨⟩
theorem tw14155697654936005903:True:=⟨⟩
theorem tw5265847034592762182:True:=⟨⟩
theorem tw3895329477948900465:True:=⟨⟩
theorem tw10729721306547862192:True:=⟨⟩
theorem tw13644702280879804754:True:=⟨⟩
theorem tw239069305698435697:True:=⟨⟩
theorem tw2718625037392884095:True:=⟨⟩
theorem tw13651294319623013237:True:=⟨⟩
theorem tw3089491021809348180:True:=⟨⟩
theorem tw14256417836288161914:True:=⟨⟩
theorem tw6651564659439058852:True:=⟨⟩
theorem tw11047607374136941109:True:=⟨⟩
theorem tw9131197135883187832:True:=⟨⟩
theorem tw1647812150833428422:True:=⟨⟩
theorem tw8374591061737784951:True:=⟨⟩
theorem tw15917880557498914941:True:=⟨⟩
theorem tw1135804258431826756:True:=⟨⟩
theorem tw10260122315771401101:True:=⟨⟩
theorem tw16846743315937041349:True:=⟨⟩
theorem tw5652262968621985143:True:=⟨⟩
theorem tw8018208000022303765:True:=⟨⟩
theorem tw14630175846299792575:True:=⟨⟩
theorem tw17542078512281248450:True:=⟨⟩
theorem tw7499366705603488901:True:=⟨⟩
theorem tw7195442467845072050:True:=⟨⟩
theorem tw563020591790417619:True:=⟨⟩
theorem tw12664011308056249518:True:=⟨⟩
theorem tw9700807235159296582:True:=⟨⟩
theorem tw17011353935507366490:True:=⟨⟩
theorem tw10758008830588986012:True:=⟨⟩
theorem tw4638555488883599217:True:=⟨⟩
theorem tw18199204726237135828:True:=⟨⟩
theorem tw11025946928648882623:True:=⟨⟩
theorem tw7338742832313803652:True:=⟨⟩
theorem tw5925297433028320939:True:=⟨⟩
theorem tw6661729661711033315:True:=⟨⟩
theorem tw18426355765883530613:True:=⟨⟩
theorem tw9590677120190787456:True:=⟨⟩
theorem tw1232111283629246056:True:=⟨⟩
theorem tw6727761009840420662:True:=⟨⟩
theorem tw4452865215156597236:True:=⟨⟩
theorem tw4309792955619430336:True:=⟨⟩
theorem tw6994965903781585247:True:=⟨⟩
theorem tw12664582725052925217:True:=⟨⟩
theorem tw17744447273817034348:True:=⟨⟩
theorem tw8516304245137078638:True:=⟨⟩
theorem tw15921424696206630268:True:=⟨⟩
theorem tw9122009732276791471:True:=⟨⟩
theorem tw15601690530410175968:True:=⟨⟩
theorem tw12746981415861713152:True:=⟨⟩
theorem tw13824040104905082616:True:=⟨⟩
theorem tw3591559149878937455:True:=⟨⟩
theorem tw15715396350403233324:True:=⟨⟩
theorem tw13845225494278802895:True:=⟨⟩
theorem tw4691151334283078909:True:=⟨⟩
theorem tw10348940884247999005:True:=⟨⟩
theorem tw4368647897267188746:True:=⟨⟩
theorem tw10580380553301688840:True:=⟨⟩
theorem tw526013889853370019:True:=⟨⟩
theorem tw14039893815791489336:True:=⟨⟩
theorem tw17948500848079195947:True:=⟨⟩
theorem tw14485756821256172183:True:=⟨⟩
theorem tw12368695485514270365:True:=⟨⟩
theorem tw8685306458980308910:True:=⟨⟩
theorem tw3880646308948247281:True:=⟨⟩
theorem tw10517972455215807433:True:=⟨⟩
theorem tw12015435827827567078:True:=⟨⟩
theorem tw4165852274078534618:True:=⟨⟩
theorem tw11035832786343287089:True:=⟨⟩
theorem tw8169678387167058788:True:=⟨⟩
theorem tw7920680232460363370:True:=⟨⟩
theorem tw4532974997470435993:True:=⟨⟩
theorem tw1849099529127947544:True:=⟨⟩
theorem tw7367707946204017043:True:=⟨⟩
theorem tw884346073098193402:True:=⟨⟩
theorem tw1228150077638893149:True:=⟨⟩
theorem tw8323773014099261188:True:=⟨⟩
theorem tw13355736664694083899:True:=⟨⟩
theorem tw7177038991738920770:True:=⟨⟩
theorem tw8805330353300504909:True:=⟨⟩
theorem tw3911174569356210286:True:=⟨⟩
theorem tw5237635626301066508:True:=⟨⟩
end PySem.W.Fast
open PySem PySem.W PyProof.Rows
set_option maxRecDepth 100000 in
set_option maxHeartbeats 0 in
theorem PySem.Challenge.cw_soundkeeping_s01_frame_holds : PySem.Challenge.rw_soundkeeping_s01_frame.Holds := by
  w_on; k_headS; (case hw => exact ⟨[.int 0, .list [], .list []], by decide +kernel, by decide +kernel⟩)
  k_fillS
  refine L2.walk_specK (r := PySem.Challenge.rw_soundkeeping_s01_frame) (k := 11) (CX := L2.CX0) (ps := ["k", "form", "numbers"]) (sp := Wg.spFrame) (by decide +kernel) rfl rfl ⟨rfl, by decide, by decide⟩ (fun w h Y => PySem.W.kIn_of Y) ?F ?S (fun _ _ _ _ z => z)
  case F =>
    intro w mg fa h Y KX G hmg
    have T : ∃ A, Wg.Txt (L2.KOf KX) mg A := by
      dsimp only [L2.KOf]
      apply Wg.txt_mk KX G
      all_goals first | k_is | k_exc | rfl
    obtain ⟨A, T⟩ := T
    have e0 := hmg.symm.trans T.m_frame
    cases e0
    exact ⟨A.d_frame, T.entry, fun base _ _ => Wg.ok_frame T⟩
  case S =>
    intro K H xs a hO hwi hask hx
    obtain ⟨x0, x1, x2, u⟩ := a
    cases hx with
    | cons h0 r0 =>
      cases r0 with
      | cons h1 r1 =>
        cases r1 with
        | cons h2 r2 =>
          cases r2
          cases h0
          cases h1 with
          | lst s1 d1 =>
            have e1 := L2.ints_dw x1 _ d1
            subst e1
            cases h2 with
            | lst s2 d2 =>
              have e2 := L2.ints_dw x2 _ d2
              subst e2
              have q : (Codec.inInt 0 4294967295 x0 && ((Codec.inLen 0 8 x1 && x1.all (Codec.inInt 0 4294967295)) && ((Codec.inLen 0 1024 x2 && x2.all (Codec.inInt (-2147483648) 2147483647)) && true))) = true := hwi
              simp only [Bool.and_eq_true] at q
              obtain ⟨q0, ⟨l1, b1⟩, ⟨l2, b2⟩, _⟩ := q
              have q0 := Codec.inInt_iff.mp q0
              have l1 := (Codec.inNat_iff.mp l1).2
              have b1 := fun z hz => Codec.inInt_iff.mp (List.all_eq_true.mp b1 z hz)
              have l2 := (Codec.inNat_iff.mp l2).2
              have b2 := fun z hz => Codec.inInt_iff.mp (List.all_eq_true.mp b2 z hz)
              exact ⟨x0, _, _, x1, x2, rfl, s1, s2, q0, fun z hz => (b1 z hz).1, l1, l2, fun H' p hp => .lst (L2.SqL.of hp) (L2.dw_ints _)⟩
#print axioms PySem.Challenge.cw_soundkeeping_s01_frame_holds
