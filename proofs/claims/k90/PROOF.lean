import PyProof.Rows.All
import Wide.All
import OpenK.AllK
import Wide.FinOn
import Lean
import PyProof.EqAt
import PyProof.EqKinds
import PyProof.TupleCall
import PySem.Challenge.RW_outweave_k90_words_and_figures
set_option Elab.async false
set_option linter.all false
set_option maxRecDepth 100000
set_option maxHeartbeats 4000000
namespace L2
open PySem PySem.Spec PyProof.Rows
abbrev Key := Sum Int Str
def keyIs : Key → Value → Bool
  | .inl k, v => Value.isInt k v
  | .inr x, v => Value.isStrOf x v
def keyH (w : World) : Key → Int
  | .inl k => hashInt k
  | .inr x => hashStr w x
theorem keyIs_shape : ∀ {k : Key} {v : Value}, keyIs k v = true → (∃ i t, k = Sum.inl i ∧ v = Value.int i t) ∨ (∃ x t, k = Sum.inr x ∧ v = Value.str x t)
  | .inl i, v, h => by
    obtain ⟨t, e⟩ := Value.isInt_shape (k := i) (v := v) h
    exact .inl ⟨i, t, rfl, e⟩
  | .inr x, v, h => by
    obtain ⟨t, e⟩ := Value.isStrOf_shape (x := x) (v := v) h
    exact .inr ⟨x, t, rfl, e⟩
theorem key_ll (a b : Int) : decide ((Sum.inl a : Key) = Sum.inl b) = (a == b) := by
  by_cases e : a = b
  · subst e; simp
  · have h : ¬ (Sum.inl a : Key) = Sum.inl b := fun q => e (Sum.inl.inj q)
    rw [decide_eq_false h]
    exact (beq_eq_false_iff_ne.mpr e).symm
theorem key_rr (a b : Str) : decide ((Sum.inr a : Key) = Sum.inr b) = decide (a = b) := by
  by_cases e : a = b
  · subst e; simp
  · have h : ¬ (Sum.inr a : Key) = Sum.inr b := fun q => e (Sum.inr.inj q)
    rw [decide_eq_false h, decide_eq_false e]
theorem key_lr (a : Int) (b : Str) : decide ((Sum.inl a : Key) = Sum.inr b) = false := decide_eq_false (fun q => nomatch q)
theorem key_rl (a : Str) (b : Int) : decide ((Sum.inr a : Key) = Sum.inl b) = false := decide_eq_false (fun q => nomatch q)
def mixKind (prog : Program) (w : World) : PySem.KeyKind prog w Key where
  is := keyIs
  hash := keyH w
  inj := fun v a b ha hb => by
    rcases keyIs_shape ha with ⟨i, t, rfl, rfl⟩ | ⟨x, t, rfl, rfl⟩
    · rcases keyIs_shape hb with ⟨j, u, rfl, e⟩ | ⟨y, u, rfl, e⟩
      · injection e with e1 _; rw [e1]
      · exact nomatch e
    · rcases keyIs_shape hb with ⟨j, u, rfl, e⟩ | ⟨y, u, rfl, e⟩
      · exact nomatch e
      · injection e with e1 _; rw [e1]
  byValue := fun k v h => by
    rcases keyIs_shape h with ⟨i, t, rfl, rfl⟩ | ⟨x, t, rfl, rfl⟩ <;> rfl
  pyHash := fun hv h => by
    rcases keyIs_shape hv with ⟨i, t, rfl, rfl⟩ | ⟨x, t, rfl, rfl⟩
    · exact wpAny_pyHash_int h
    · exact wpAny_pyHash_str h
  eqBool := fun hu hv h => by
    rcases keyIs_shape hu with ⟨i, t, rfl, rfl⟩ | ⟨x, t, rfl, rfl⟩
    · rcases keyIs_shape hv with ⟨j, u, rfl, rfl⟩ | ⟨y, u, rfl, rfl⟩
      · rw [key_ll] at h; exact wpAny_eqBool_int h
      · rw [key_lr] at h; exact SeqAt.EqAt.int_str i t y u _ _ _ _ h
    · rcases keyIs_shape hv with ⟨j, u, rfl, rfl⟩ | ⟨y, u, rfl, rfl⟩
      · rw [key_rl] at h; exact SeqAt.EqAt.str_int x t j u _ _ _ _ h
      · rw [key_rr] at h; exact wpAny_eqBool_str h
  «strs» := fun k x t v h => by
    rcases keyIs_shape h with ⟨i, u, rfl, e⟩ | ⟨y, u, rfl, e⟩
    · exact nomatch e
    · injection e with e1 _
      subst e1
      cases v <;> rfl
end L2
namespace L2
open PySem PySem.Spec PyProof.Rows
inductive V where
  | non | bl (b : Bool) | int (i : Int) | str (x : Str) | byt (b : Array UInt8) | flt (b : UInt64) | ref (a : Addr) | ty (n : String)
  deriving DecidableEq
def RelV : V → Value → Prop
  | .non, u => u = Value.none
  | .bl b, u => u = Value.bool b
  | .int i, u => ∃ t, u = Value.int i t
  | .str x, u => ∃ t, u = Value.str x t
  | .byt b, u => ∃ t, u = Value.bytes b t
  | .flt b, u => ∃ t, u = Value.float b t
  | .ref a, u => u = Value.ref a
  | .ty n, u => u = Value.type n
abbrev Vals : List V → List Value → Prop := Paired RelV
theorem Vals.length {xs : List V} {us : List Value} (r : Vals xs us) : xs.length = us.length := Paired.length r
theorem Vals.get : ∀ {xs : List V} {us : List Value} {i : Nat} {x : V}, Vals xs us → xs[i]? = some x → ∃ u, us[i]? = some u ∧ RelV x u
  | _, _, _, _, .nil, e => by simp at e
  | _, _, 0, _, .cons r _, e => by simp at e; subst e; exact ⟨_, rfl, r⟩
  | _, _, i + 1, x, .cons _ t, e => by
    obtain ⟨u, h1, h2⟩ := Vals.get (i := i) (x := x) t (by simpa using e)
    exact ⟨u, by simpa using h1, h2⟩
theorem Vals.set {x : V} {u : Value} (r : RelV x u) : ∀ {xs : List V} {us : List Value} (i : Nat), Vals xs us → Vals (xs.set i x) (us.set i u)
  | _, _, _, .nil => .nil
  | _, _, 0, .cons _ t => .cons r t
  | _, _, i + 1, .cons q t => .cons q (Vals.set r i t)
theorem Vals.append : ∀ {xs ys : List V} {us ws : List Value}, Vals xs us → Vals ys ws → Vals (xs ++ ys) (us ++ ws)
  | _, _, _, _, .nil, s => s
  | _, _, _, _, .cons r t, s => .cons r (Vals.append t s)
theorem Vals.take : ∀ {xs : List V} {us : List Value} (n : Nat), Vals xs us → Vals (xs.take n) (us.take n)
  | _, _, 0, _ => .nil
  | _, _, _ + 1, .nil => .nil
  | _, _, n + 1, .cons r t => .cons r (Vals.take n t)
theorem Vals.drop : ∀ {xs : List V} {us : List Value} (n : Nat), Vals xs us → Vals (xs.drop n) (us.drop n)
  | _, _, 0, r => r
  | _, _, _ + 1, .nil => .nil
  | _, _, n + 1, .cons _ t => Vals.drop n t
def RelO : Option V → Option Value → Prop
  | some v, some u => RelV v u
  | none, none => True
  | _, _ => False
def KV {κ : Type} : List (κ × V) → List (κ × Value) → Prop := Paired fun (p : κ × V) (q : κ × Value) => p.1 = q.1 ∧ RelV p.2 q.2
def kV : Key → V
  | .inl i => .int i
  | .inr x => .str x
inductive HO where
    | lst (xs : List V)
    | tup (xs : List V)
    | dK (kvs : List (Key × V)) | dT (kvs : List (List Key × V))
    | set (S : Int → Bool) (n : Nat)
    | ins (C dx : Addr) (fs : List (Str × V))
    | own (x : Addr)
    | xd (fs : List (Str × V))
    | met (f x : Addr)
    | rng (lo hi : Int)
    | frz (o : Obj) (u : HO)
    | tbl (ps : Array Value)
    | ext (φ : Heap → Prop)
abbrev Hp := Addr → Option HO
def upd (H : Hp) (a : Addr) (o : HO) : Hp := fun b => if b = a then some o else H b
theorem upd_same {H : Hp} {a : Addr} {o : HO} : upd H a o a = some o := by unfold upd; rw [if_pos rfl]
theorem upd_ne {H : Hp} {a b : Addr} {o : HO} (h : b ≠ a) : upd H a o b = H b := by unfold upd; rw [if_neg h]
theorem ne_of_none {H : Hp} {a b : Addr} {o : HO} (h : H a = some o) (h' : H b = none) : a ≠ b := by
  intro e; subst e; rw [h] at h'; cases h'
section
variable (P : Program) (w : World)
def ObjOk (H : Hp) (h : Heap) (a : Addr) : HO → Prop
  | .lst xs => xs.length ≤ sizeLine ∧ ∃ (its : List Value) (n : Nat), Vals xs its ∧ h.get? a = some { cls := .type "list", data := .seq its.toArray n }
  | .tup xs => xs.length ≤ sizeLine ∧ ∃ its : List Value, Vals xs its ∧ IsTup h a its.toArray
  | .dK kvs => kvs.length ≤ sizeLine ∧ (a == sysModules) = false ∧ ∃ vs, KV kvs vs ∧ h.DictOf (mixKind P w) a vs
  | .dT kvs => kvs.length ≤ sizeLine ∧ (a == sysModules) = false ∧ ∃ xs : List (List Key × Addr × Value),
      Paired (fun (p : List Key × V) (q : List Key × Addr × Value) => p.1 = q.1 ∧ H q.2.1 = some (.tup (p.1.map kV)) ∧ RelV p.2 q.2.2) kvs xs ∧
      ∃ o es ep, h.get? a = some o ∧ o.ExactDict ∧ o.data = .dict es ep ∧ es.toList = xs.map (entryOfKey (tupleKind (mixKind P w))) ∧ (xs.map (·.1)).Nodup
  | .set S n => h.SetOf (intKind P w) a S n
  | .ins C dx fs => H dx = some (.own a) ∧ fs.length ≤ 1000 ∧ dx ≠ a ∧ h.get? a = some (PySem.W.instObj C dx) ∧
      ∃ mA, h.Ns1 dx mA ∧ (∀ f, RelO (fs.lookup f) (mA f)) ∧ PySem.Within mA (fs.map (·.1))
  | .own _ => ∃ o, h.get? a = some o
  | .xd fs => ∃ mA, h.Ns1 a mA ∧ ∀ f, RelO (fs.lookup f) (mA f)
  | .rng lo hi => ∃ t u v, h.get? a = some { cls := .type "range", data := .fields #[.int lo t, .int hi u, .int 1 v] }
  | .frz o u => h.get? a = some o ∧ ObjOk H h a u
  | .tbl ps => h.get? a = some { cls := .none, data := .fields ps }
  | .met f x => h.get? a = some (PySem.W.methodObj (.ref f) (.ref x))
  | .ext φ => φ h ∧ (∃ o, h.get? a = some o) ∧ ∀ h1 h2 : Heap, φ h1 → (∀ o, h1.get? a = some o → h2.get? a = some o) → φ h2
def HOk (H : Hp) (h : Heap) : Prop := ∀ a o, H a = some o → ObjOk P w H h a o
end
section
variable {P : Program} {w : World} {H H' : Hp} {h h' : Heap} {a : Addr} {o : HO}
theorem ObjOk.lt (x : ObjOk P w H h a o) : a < h.objs.size := by
  cases o with
  | lst xs => obtain ⟨_, _, _, _, e⟩ := x; exact Heap.lt_size e
  | tup xs => obtain ⟨_, _, _, p⟩ := x; exact p.lt
  | dK kvs => obtain ⟨_, _, _, _, o, _, _, e, _⟩ := x; exact Heap.lt_size e
  | dT kvs => obtain ⟨_, _, _, _, o, _, _, e, _⟩ := x; exact Heap.lt_size e
  | set S n => obtain ⟨o, _, _, _, e, _⟩ := x; exact Heap.lt_size e
  | ins C dx fs => obtain ⟨_, _, _, e, _⟩ := x; exact Heap.lt_size e
  | own y => obtain ⟨_, e⟩ := x; exact Heap.lt_size e
  | xd fs => obtain ⟨_, ⟨_, _, _, e, _⟩, _⟩ := x; exact Heap.lt_size e
  | rng lo hi => obtain ⟨_, _, _, e⟩ := x; exact Heap.lt_size e
  | frz ob u => obtain ⟨e, _⟩ := x; exact Heap.lt_size e
  | tbl ps => exact Heap.lt_size (show h.get? a = some _ from x)
  | met f y => exact Heap.lt_size (show h.get? a = some _ from x)
  | ext φ => obtain ⟨_, ⟨_, e⟩, _⟩ := x; exact Heap.lt_size e
theorem Paired.mapP {α β : Type} {F G : α → β → Prop} : ∀ {l₁ : List α} {l₂ : List β}, Paired F l₁ l₂ → (∀ a b, F a b → G a b) → Paired G l₁ l₂
  | _, _, .nil, _ => .nil
  | _, _, .cons r t, f => .cons (f _ _ r) (Paired.mapP t f)
theorem ObjOk.stay (x : ObjOk P w H h a o) (k : ∀ b u, (b = a ∨ H b = some (.own a)) → h.get? b = some u → h'.get? b = some u)
    (ho : ∀ b, H b = some (.own a) → H' b = some (.own a)) (ht : ∀ b xs, H b = some (.tup xs) → H' b = some (.tup xs)) : ObjOk P w H' h' a o := by
  induction o with
  | lst xs => obtain ⟨z, its, n, r, e⟩ := x; exact ⟨z, its, n, r, k _ _ (.inl rfl) e⟩
  | tup xs => obtain ⟨z, its, r, ob, e, c⟩ := x; exact ⟨z, its, r, ob, k _ _ (.inl rfl) e, c⟩
  | dK kvs => obtain ⟨z, y, vs, r, ob, es, ep, e, c⟩ := x; exact ⟨z, y, vs, r, ob, es, ep, k _ _ (.inl rfl) e, c⟩
  | dT kvs =>
    obtain ⟨z, y, xs, r, ob, es, ep, e, c⟩ := x
    exact ⟨z, y, xs, Paired.mapP r fun p q z => ⟨z.1, ht _ _ z.2.1, z.2.2⟩, ob, es, ep, k _ _ (.inl rfl) e, c⟩
  | set S n => obtain ⟨ob, es, ep, t, e, c⟩ := x; exact ⟨ob, es, ep, t, k _ _ (.inl rfl) e, c⟩
  | ins C dx fs =>
    obtain ⟨d, z, ne, e, mA, ⟨od, es, ep, e2, c⟩, r⟩ := x
    exact ⟨ho _ d, z, ne, k _ _ (.inl rfl) e, mA, ⟨od, es, ep, k _ _ (.inr d) e2, c⟩, r⟩
  | own y => obtain ⟨ob, e⟩ := x; exact ⟨ob, k _ _ (.inl rfl) e⟩
  | xd fs => obtain ⟨mA, ⟨od, es, ep, e, c⟩, r⟩ := x; exact ⟨mA, ⟨od, es, ep, k _ _ (.inl rfl) e, c⟩, r⟩
  | rng lo hi => obtain ⟨t, u, v, e⟩ := x; exact ⟨t, u, v, k _ _ (.inl rfl) e⟩
  | frz ob u ih => obtain ⟨e, q⟩ := x; exact ⟨k _ _ (.inl rfl) e, ih q⟩
  | tbl ps =>
    have e : h.get? a = some { cls := .none, data := .fields ps } := x
    show h'.get? a = some { cls := .none, data := .fields ps }
    exact k a _ (.inl rfl) e
  | met f y =>
    have e : h.get? a = some (PySem.W.methodObj (.ref f) (.ref y)) := x
    show h'.get? a = some (PySem.W.methodObj (.ref f) (.ref y))
    exact k a _ (.inl rfl) e
  | ext φ => obtain ⟨p, ⟨o, e⟩, st⟩ := x; exact ⟨st _ _ p fun o q => k _ _ (.inl rfl) q, ⟨o, k _ _ (.inl rfl) e⟩, st⟩
theorem HOk.lt (x : HOk P w H h) (e : H a = some o) : a < h.objs.size := (x a o e).lt
theorem HOk.fresh (x : HOk P w H h) (e : h.objs.size ≤ a) : H a = none := by
  cases q : H a with
  | none => rfl
  | some u => exact absurd (Nat.lt_of_lt_of_le (x.lt q) e) (Nat.lt_irrefl _)
theorem HOk.kept (x : HOk P w H h) (k : ∀ b u, h.get? b = some u → h'.get? b = some u) : HOk P w H h' := fun a o e =>
  (x a o e).stay (fun b u _ q => k b u q) (fun _ q => q) fun _ _ q => q
theorem HOk.laid (x : HOk P w H h) (k : ∀ b u, h.get? b = some u → h'.get? b = some u) (hp : h.objs.size ≤ a) (new : ObjOk P w (upd H a o) h' a o) : HOk P w (upd H a o) h' := fun b u e => by
  have hn := x.fresh hp
  by_cases hb : b = a
  · subst hb; rw [upd_same] at e; cases e; exact new
  · rw [upd_ne hb] at e
    exact (x b u e).stay (fun c v _ q => k c v q) (fun c q => by rw [upd_ne (ne_of_none q hn)]; exact q) fun c xs q => by rw [upd_ne (ne_of_none q hn)]; exact q
end
def Rd (H : Hp) (a : Addr) (u : HO) : Prop := H a = some u ∨ ∃ o, H a = some (.frz o u)
theorem Rd.of {H : Hp} {a : Addr} {u : HO} (h : H a = some u) : Rd H a u := .inl h
theorem Rd.ok {P : Program} {w : World} {H : Hp} {h : Heap} {a : Addr} {u : HO} (r : Rd H a u) (x : HOk P w H h) : ObjOk P w H h a u := by
  rcases r with r | ⟨o, r⟩
  · exact x a u r
  · obtain ⟨_, q⟩ := x a _ r
    exact q
def Mut : Option HO → Prop
  | some (.lst _) => True
  | some (.dK _) => True
  | some (.dT _) => True
  | some (.set _ _) => True
  | some (.ins _ _ _) => True
  | some (.ext _) => True
  | _ => False
section
variable {P : Program} {w : World} {H : Hp} {h h' : Heap} {x e : Addr} {o' : HO}
theorem HOk.write (ok : HOk P w H h) (mu : Mut (H x)) (he : e = x ∨ H e = some (.own x)) (k : ∀ b u, b ≠ e → h.get? b = some u → h'.get? b = some u) (heo : ∃ u, h'.get? e = some u)
    (new : ObjOk P w (upd H x o') h' x o') : HOk P w (upd H x o') h' := fun b u q => by
  have nown : ∀ c y, H c = some (.own y) → c ≠ x := fun c y r z => by subst z; rw [r] at mu; exact mu
  have ntup : ∀ c xs, H c = some (.tup xs) → c ≠ x := fun c xs r z => by subst z; rw [r] at mu; exact mu
  by_cases hb : b = x
  · subst hb; rw [upd_same] at q; cases q; exact new
  · rw [upd_ne hb] at q
    by_cases hbe : b = e
    · have q' : H b = some (.own x) := by
        rcases he with z | z
        · exact absurd (hbe.trans z) hb
        · rw [hbe]; exact z
      rw [q] at q'; cases q'
      obtain ⟨v, hv⟩ := heo
      exact ⟨v, by rw [hbe]; exact hv⟩
    · refine (ok b u q).stay (fun c v hc r => k c v ?_ r) (fun c r => by rw [upd_ne (nown c b r)]; exact r) fun c xs r => by rw [upd_ne (ntup c xs r)]; exact r
      rcases hc with rfl | hc
      · exact hbe
      · rintro rfl
        rcases he with z | z
        · exact nown c b hc z
        · rw [hc] at z; cases z; exact hb rfl
end
structure Un (fs ex : List Addr) (H H' : Hp) (h h' : Heap) : Prop where
  keep : ∀ b o, h.get? b = some o → H b = none → b ∉ fs → b ∉ ex → h'.get? b = some o
  slot : ∀ b o, h.get? b = some o → H b = none → b ∈ fs → b ∉ ex → ∃ sl, h'.get? b = some { o with slots := sl }
  free : ∀ b o, h.get? b = some o → H b = none → b ∉ ex → H' b = none
  there : ∀ b o, h.get? b = some o → b ∉ ex → ∃ o', h'.get? b = some o'
  tups : ∀ b xs, H b = some (.tup xs) → H' b = some (.tup xs)
  frzs : ∀ b o u, H b = some (.frz o u) → H' b = some (.frz o u)
  tbls : ∀ b ps, H b = some (.tbl ps) → ∃ more, H' b = some (.tbl (ps ++ more))
section
variable {fs fs' ex ex' : List Addr} {H H1 H2 : Hp} {h h1 h2 h' : Heap} {a x e : Addr} {o : HO}
theorem Un.any (u : Un fs ex H H1 h h1) {b : Addr} {ob : Obj} (q : h.get? b = some ob) (n : H b = none) (hx : b ∉ ex) : ∃ sl, h1.get? b = some { ob with slots := sl } := by
  by_cases hb : b ∈ fs
  · exact u.slot b ob q n hb hx
  · exact ⟨ob.slots, u.keep b ob q n hb hx⟩
theorem Un.trans (a : Un fs ex H H1 h h1) (b : Un fs ex H1 H2 h1 h2) : Un fs ex H H2 h h2 where
  keep := fun c ob q n hc hx => b.keep c ob (a.keep c ob q n hc hx) (a.free c ob q n hx) hc hx
  slot := fun c ob q n hc hx => by
    obtain ⟨sl, e1⟩ := a.slot c ob q n hc hx
    obtain ⟨sl', e2⟩ := b.slot c _ e1 (a.free c ob q n hx) hc hx
    exact ⟨sl', e2⟩
  free := fun c ob q n hx => by
    obtain ⟨o', e1⟩ := a.there c ob q hx
    exact b.free c o' e1 (a.free c ob q n hx) hx
  there := fun c ob q hx => by
    obtain ⟨o', e1⟩ := a.there c ob q hx
    exact b.there c o' e1 hx
  tups := fun c xs q => b.tups c xs (a.tups c xs q)
  frzs := fun c ob xs q => b.frzs c ob xs (a.frzs c ob xs q)
  tbls := fun c ps q => by
    obtain ⟨m1, e1⟩ := a.tbls c ps q
    obtain ⟨m2, e2⟩ := b.tbls c _ e1
    exact ⟨m1 ++ m2, by rw [e2, Array.append_assoc]⟩
theorem Un.kept (k : ∀ b u, h.get? b = some u → h'.get? b = some u) : Un fs ex H H h h' :=
  ⟨fun b ob q _ _ _ => k b ob q, fun b ob q _ _ _ => ⟨ob.slots, k b ob q⟩, fun _ _ _ n _ => n, fun b ob q _ => ⟨ob, k b ob q⟩, fun _ _ q => q, fun _ _ _ q => q, fun _ ps q => ⟨#[], by rw [q]; simp⟩⟩
theorem Un.refl : Un fs ex H H h h := Un.kept fun _ _ q => q
theorem Un.laid (k : ∀ b u, h.get? b = some u → h'.get? b = some u) (hp : h.objs.size ≤ a) (hn : H a = none) : Un fs ex H (upd H a o) h h' where
  keep := fun b u q _ _ _ => k b u q
  slot := fun b u q _ _ _ => ⟨u.slots, k b u q⟩
  free := fun b u q n _ => by rw [upd_ne (Nat.ne_of_lt (Nat.lt_of_lt_of_le (Heap.lt_size q) hp))]; exact n
  there := fun b u q _ => ⟨u, k b u q⟩
  tups := fun b xs q => by rw [upd_ne (ne_of_none q hn)]; exact q
  frzs := fun b u xs q => by rw [upd_ne (ne_of_none q hn)]; exact q
  tbls := fun b ps q => ⟨#[], by rw [upd_ne (ne_of_none q hn), q]; simp⟩
theorem Un.write (mu : Mut (H x)) (he : e = x ∨ H e = some (.own x)) (k : ∀ b u, b ≠ e → h.get? b = some u → h'.get? b = some u) (heo : ∃ u, h'.get? e = some u) : Un fs ex H (upd H x o) h h' := by
  have hx : ∀ b, H b = none → b ≠ x := fun b n z => by subst z; rw [n] at mu; exact mu
  have hb : ∀ b, H b = none → b ≠ e := fun b n z => by
    subst z
    rcases he with r | r
    · exact hx b n r
    · rw [n] at r; cases r
  have hm : ∀ b u, H b = some u → ¬ Mut (some u) → b ≠ x := fun b u q nm z => by subst z; rw [q] at mu; exact nm mu
  refine ⟨fun b u q n _ _ => k b u (hb b n) q, fun b u q n _ _ => ⟨u.slots, k b u (hb b n) q⟩, fun b u q n _ => by rw [upd_ne (hx b n)]; exact n, fun b u q _ => ?_,
    fun b xs q => by rw [upd_ne (hm b _ q fun z => z)]; exact q, fun b u xs q => by rw [upd_ne (hm b _ q fun z => z)]; exact q, fun b ps q => ⟨#[], by rw [upd_ne (hm b _ q fun z => z), q]; simp⟩⟩
  by_cases hbe : b = e
  · subst hbe; exact heo
  · exact ⟨u, k b u hbe q⟩
theorem Un.mono (u : Un fs ex H H1 h h1) (hs : ∀ b ∈ fs, b ∈ fs') (hx : ∀ b ∈ ex, b ∈ ex') : Un fs' ex' H H1 h h1 :=
  ⟨fun b ob q n hb he => u.keep b ob q n (fun z => hb (hs b z)) fun z => he (hx b z), fun _ _ q n _ he => u.any q n fun z => he (hx _ z), fun b ob q n he => u.free b ob q n fun z => he (hx b z), fun b ob q he => u.there b ob q fun z => he (hx b z), u.tups, u.frzs, u.tbls⟩
end
def trk (h : Heap) (H : Hp) : List Addr := (List.range h.objs.size).filter fun a => (H a).isSome
def hidT (h : Heap) (H : Hp) : Heap := PySem.W.hideAll h (trk h H)
theorem hidT_size (h : Heap) (H : Hp) : (hidT h H).objs.size = h.objs.size := PySem.W.hideAll_size _ _
theorem hidT_get {h : Heap} {H : Hp} {b : Addr} {o : Obj} (e : h.get? b = some o) (n : H b = none) : (hidT h H).get? b = some o :=
  PySem.W.hideAll_get _ e fun hm => by
    have q : (H b).isSome = true := (List.mem_filter.mp hm).2
    rw [n] at q; simp at q
theorem of_hidT {h : Heap} {H : Hp} {b : Addr} {o : Obj} (e : (hidT h H).get? b = some o) : h.get? b = some o ∧ H b = none := by
  have e' : h.get? b = some o := PySem.W.of_hideAll (trk h H) e
  refine ⟨e', ?_⟩
  cases q : H b with
  | none => rfl
  | some x =>
    have hm : b ∈ trk h H := List.mem_filter.mpr ⟨List.mem_range.mpr (Heap.lt_size e'), by simp [q]⟩
    have z : (hidT h H).get? b = none := PySem.W.hideAll_none (trk h H) hm
    rw [z] at e; cases e
def allNews (g h : Heap) (L : Addr) : List (Addr × Obj) := (List.range h.objs.size).filterMap fun a => if a = L ∨ (g.get? a).isSome = true then none else (h.get? a).map fun o => (a, o)
def rest (g h : Heap) (L d : Addr) : List (Addr × Obj) := (allNews g h L).filter fun p => decide (p.1 ≠ d)
end L2
namespace L2
open PySem PySem.Spec PyProof.Rows
structure Mod (K : PySem.W.Frag) (mg : Str → Option Value) (base : Heap) : Prop where
  kin : K.In base
  glob : base.Ns mainGlobals mg
  blt : ∃ mb, base.Ns builtinsNs mb ∧ ∀ x : Str, x ≠ "__name__" → mb x = bootBuiltins x
  nolimit : base.NoLimit
structure Cx where
  prog : Program
  w : World
  K : PySem.W.Frag
  mg : Str → Option Value
  base : Heap
  A : Around
  N : List Str
  s₀ : Shared
  H₀ : Hp
  env : Env
  outer : List Env
  stack : List Env
  ex : List Addr
  fn : Str → Bool
  calm : Bool
  pn : List (Addr × Obj)
  xe : Value → Shared → Prop
def frs (l : List Env) : List Addr := l.filterMap (·.frame)
abbrev Cx.fs (X : Cx) : List Addr := frs X.outer
def Vis (sc : Scope) (x : Str) : Prop := sc.names.lookup x = some .local ∨ sc.names.lookup x = some .cell ∨ sc.names.lookup x = some .free
def Loc (sc : Scope) (x : Str) : Prop := sc.names.lookup x = some .local ∨ sc.names.lookup x = some .cell
def Look (env : Env) (h : Heap) (m : Str → Option Value) (x : Str) (u : Value) : Prop :=
  (env.kindOf x = some .local ∧ m x = some u) ∨ ((env.kindOf x = some .cell ∨ env.kindOf x = some .free) ∧ ∃ c, env.cells.lookup x = some c ∧ h.IsCell c (some u))
structure Cx.Ok (X : Cx) : Prop where
  mod : Mod X.K X.mg X.base
  kind : X.env.scope.kind = .function
  glob : X.env.globals = mainGlobals
  blt : X.env.builtins = builtinsNs
  above : X.s₀.heap.objs.size ≤ X.env.locals
  inj : ∀ x y c, X.env.cells.lookup x = some c → X.env.cells.lookup y = some c → x = y
  has : ∀ x, (X.env.kindOf x = some .cell ∨ X.env.kindOf x = some .free) → ∃ c, X.env.cells.lookup x = some c
  cab : ∀ x c, X.fn x = true → X.env.cells.lookup x = some c → X.s₀.heap.objs.size ≤ c
  hd : X.calm = true → X.A.handled = none
  frames : X.A.frames = some X.stack
  stk : X.stack = X.outer ∨ (X.stack = X.env :: X.outer ∧ X.env.frame = some X.env.locals)
  exf : ∀ b ∈ X.ex, b ≠ X.env.locals ∧ ∀ x c, X.env.cells.lookup x = some c → c ≠ b
  bs : ∀ b o, X.base.get? b = some o → X.s₀.heap.get? b = some o ∧ X.H₀ b = none
  bsz : X.base.objs.size ≤ X.s₀.heap.objs.size
  noex : ∀ b o, X.base.get? b = some o → b ∉ X.ex
  exfs : ∀ b ∈ X.ex, b ∉ X.fs
  funs : X.s₀.heap.FunFrames X.base X.outer
  frf : ∀ b ∈ X.fs, X.H₀ b = none
structure Inv (X : Cx) (pins : List (Addr × Obj)) (σ : List (Option V)) (H : Hp) (s : Shared) : Prop where
  ok : X.Ok
  os : s.os = X.s₀.os
  bare : AllBare s.gens
  base : Un X.fs X.ex X.H₀ H X.s₀.heap s.heap
  loc : ∃ m, s.heap.Ns X.env.locals m ∧ ∀ (i : Nat) (x : Str) (v : V), X.N[i]? = some x → σ[i]? = some (some v) → Vis X.env.scope x → ∃ u, RelV v u ∧ Look X.env s.heap m x u
  cell : ∀ x c, X.env.cells.lookup x = some c → ∃ v, s.heap.IsCell c v
  free : H X.env.locals = none
  freeC : ∀ x c, X.env.cells.lookup x = some c → H c = none
  pin : ∀ p ∈ X.pn ++ pins, s.heap.get? p.1 = some p.2 ∧ H p.1 = none ∧ p.1 ≠ X.env.locals ∧ p.1 ∉ X.fs ∧ ∀ v, p.2.data ≠ .cell v
  hok : HOk X.prog X.w H s.heap
  len : σ.length = X.N.length
section
variable {X : Cx} {pins : List (Addr × Obj)} {σ : List (Option V)} {H H' : Hp} {s : Shared} {h' : Heap}
theorem Cx.Ok.nofr (ok : X.Ok) {b : Addr} {o : Obj} (e : X.base.get? b = some o) : b ∉ X.fs := fun hb => by
  have := (ok.funs.mem hb).1
  rw [e] at this; cases this
theorem Inv.bs (I : Inv X pins σ H s) : ∀ b o, X.base.get? b = some o → s.heap.get? b = some o ∧ H b = none := fun b o e =>
  ⟨I.base.keep b o (I.ok.bs b o e).1 (I.ok.bs b o e).2 (I.ok.nofr e) (I.ok.noex b o e), I.base.free b o (I.ok.bs b o e).1 (I.ok.bs b o e).2 (I.ok.noex b o e)⟩
theorem Inv.bk (I : Inv X pins σ H s) : ∀ b o, X.base.get? b = some o → s.heap.get? b = some o := fun b o e => (I.bs b o e).1
theorem Inv.mod (I : Inv X pins σ H s) : Mod X.K X.mg X.base := I.ok.mod
theorem Inv.kIn (I : Inv X pins σ H s) : X.K.In s.heap := I.ok.mod.kin.keeps I.bk
theorem Inv.nolimit (I : Inv X pins σ H s) : s.heap.NoLimit := I.ok.mod.nolimit.keeps I.bk
theorem Inv.fr (I : Inv X pins σ H s) : ∃ m, Fr X.base X.env.locals s.heap m :=
  let ⟨m, hn, _⟩ := I.loc
  ⟨m, hn, I.bk, Nat.le_trans I.ok.bsz I.ok.above⟩
theorem Inv.lt (I : Inv X pins σ H s) : X.env.locals < s.heap.objs.size := let ⟨_, hn, _⟩ := I.loc; hn.lt
theorem Inv.sz (I : Inv X pins σ H s) : X.s₀.heap.objs.size ≤ s.heap.objs.size := Nat.le_trans I.ok.above (Nat.le_of_lt I.lt)
theorem Inv.nofs (I : Inv X pins σ H s) {a : Addr} (h : s.heap.objs.size ≤ a) : a ∉ X.fs := fun hb => by
  obtain ⟨_, o, ho, _⟩ := I.ok.funs.mem hb
  exact absurd (Nat.lt_of_lt_of_le (Heap.lt_size ho) (Nat.le_trans I.sz h)) (Nat.lt_irrefl _)
theorem Inv.cne (I : Inv X pins σ H s) : ∀ x c, X.env.cells.lookup x = some c → c ≠ X.env.locals := fun x c e z => by
  obtain ⟨v, o, ho, hd⟩ := I.cell x c e
  obtain ⟨m, ⟨o', es, ep, ho', hd', _⟩, _⟩ := I.loc
  rw [z, ho'] at ho; cases ho; rw [hd'] at hd; cases hd
theorem Inv.funs (I : Inv X pins σ H s) : s.heap.FunFrames X.base X.outer := by
  have all : ∀ (l : List Env), (∀ b ∈ frs l, b ∈ X.fs) → X.s₀.heap.FunFrames X.base l → s.heap.FunFrames X.base l := by
    intro l
    induction l with
    | nil => intro _ _; trivial
    | cons env r ih =>
      intro hs hl
      obtain ⟨hk, ⟨L, o, hf, hn, ho, hd⟩, hr⟩ := hl
      have hL : L ∈ X.fs := hs L (by unfold frs; rw [List.filterMap_cons, hf]; exact List.mem_cons_self)
      obtain ⟨sl, e⟩ := I.base.slot L o ho (I.ok.frf L hL) hL fun z => I.ok.exfs L z hL
      exact ⟨hk, ⟨L, _, hf, hn, e, hd⟩, ih (fun b hb => hs b (by unfold frs; rw [List.filterMap_cons, hf]; exact List.mem_cons_of_mem _ hb)) hr⟩
  exact all X.outer (fun _ hb => hb) I.ok.funs
theorem Inv.stack (I : Inv X pins σ H s) : s.heap.FunFrames X.base X.stack := by
  rcases I.ok.stk with e | ⟨e, hf⟩
  · rw [e]; exact I.funs
  · rw [e]
    obtain ⟨m, hn, _⟩ := I.loc
    refine .cons (by rw [I.ok.kind]; decide) hf hn ?_ I.funs
    exact Heap.get?_none_of_le (Nat.le_trans I.ok.bsz I.ok.above)
theorem Inv.stkSub (I : Inv X pins σ H s) : ∀ b ∈ frs X.stack, b ∈ X.env.locals :: X.fs := fun b hb => by
  rcases I.ok.stk with e | ⟨e, hf⟩
  · rw [e] at hb; exact List.mem_cons_of_mem _ hb
  · rw [e] at hb
    unfold frs at hb
    rw [List.filterMap_cons, hf] at hb
    exact hb
theorem Inv.stkFree (I : Inv X pins σ H s) : ∀ b ∈ frs X.stack, H b = none := fun b hb => by
  rcases List.mem_cons.mp (I.stkSub b hb) with e | hb
  · rw [e]; exact I.free
  · obtain ⟨_, o, ho, _⟩ := I.ok.funs.mem hb
    exact I.base.free b o ho (I.ok.frf b hb) fun z => I.ok.exfs b z hb
theorem Inv.step {g' : Array GenState} {t' : Nat} {d' : Drawn} {ch : List Addr} (I : Inv X pins σ H s)
    (hch : ∀ b ∈ ch, (b ∈ X.ex ∨ X.s₀.heap.objs.size ≤ b) ∧ b ≠ X.env.locals ∧ (∀ x c, X.env.cells.lookup x = some c → c ≠ b) ∧ ∀ p ∈ X.pn ++ pins, p.1 ≠ b)
    (keep : ∀ b o, b ≠ X.env.locals → b ∉ X.fs → b ∉ ch → s.heap.get? b = some o → H b = none → h'.get? b = some o)
    (slot : ∀ b o, b ≠ X.env.locals → b ∈ X.fs → b ∉ ch → s.heap.get? b = some o → H b = none → ∃ sl, h'.get? b = some { o with slots := sl }) (free : ∀ b o, b ∉ ch → s.heap.get? b = some o → H b = none → H' b = none)
    (there : ∀ b o, b ∉ ch → s.heap.get? b = some o → ∃ o', h'.get? b = some o')
    (tups : ∀ b xs, H b = some (.tup xs) → H' b = some (.tup xs)) (frzs : ∀ b o u, H b = some (.frz o u) → H' b = some (.frz o u)) (tbls : ∀ b ps, H b = some (.tbl ps) → ∃ more, H' b = some (.tbl (ps ++ more)))
    (ns : ∀ m, s.heap.Ns X.env.locals m → h'.Ns X.env.locals m) (hok : HOk X.prog X.w H' h') (hg : AllBare g') :
    Inv X pins σ H' { s with heap := h', gens := g', drawn := d', toks := t' } := by
  have neL : ∀ b o, X.s₀.heap.get? b = some o → b ≠ X.env.locals := fun b o e => Nat.ne_of_lt (Nat.lt_of_lt_of_le (Heap.lt_size e) I.ok.above)
  have neC : ∀ b o, X.s₀.heap.get? b = some o → b ∉ X.ex → b ∉ ch := fun b o e hx hb => by
    rcases (hch b hb).1 with z | z
    · exact hx z
    · exact absurd (Nat.lt_of_lt_of_le (Heap.lt_size e) z) (Nat.lt_irrefl _)
  have cellK : ∀ x c, X.env.cells.lookup x = some c → ∀ v, s.heap.IsCell c v → h'.IsCell c v := fun x c e v ⟨o, ho, hd⟩ => by
    have nch : c ∉ ch := fun z => (hch c z).2.2.1 x c e rfl
    by_cases hc : c ∈ X.fs
    · obtain ⟨sl, q⟩ := slot c o (I.cne x c e) hc nch ho (I.freeC x c e)
      exact ⟨_, q, hd⟩
    · exact ⟨o, keep c o (I.cne x c e) hc nch ho (I.freeC x c e), hd⟩
  refine ⟨I.ok, I.os, hg, ⟨fun b o e n hb hx => ?_, fun b o e n hb hx => ?_, fun b o e n hx => ?_, fun b o e hx => ?_, fun b xs e => tups b xs (I.base.tups b xs e), fun b o xs e => frzs b o xs (I.base.frzs b o xs e), fun b ps e => ?_⟩, ?_, fun x c e => ?_, ?_, fun x c e => ?_, fun p hp => ?_, hok, I.len⟩
  · exact keep b o (neL b o e) hb (neC b o e hx) (I.base.keep b o e n hb hx) (I.base.free b o e n hx)
  · obtain ⟨sl, e1⟩ := I.base.slot b o e n hb hx
    obtain ⟨sl', e2⟩ := slot b _ (neL b o e) hb (neC b o e hx) e1 (I.base.free b o e n hx)
    exact ⟨sl', e2⟩
  · obtain ⟨o', e1⟩ := I.base.there b o e hx
    exact free b o' (neC b o e hx) e1 (I.base.free b o e n hx)
  · obtain ⟨o', e1⟩ := I.base.there b o e hx
    exact there b o' (neC b o e hx) e1
  · obtain ⟨m1, e1⟩ := I.base.tbls b ps e
    obtain ⟨m2, e2⟩ := tbls b _ e1
    exact ⟨m1 ++ m2, by rw [e2, Array.append_assoc]⟩
  · obtain ⟨m, hn, hl⟩ := I.loc
    refine ⟨m, ns m hn, fun i x v e1 e2 e3 => ?_⟩
    obtain ⟨u, r, l⟩ := hl i x v e1 e2 e3
    refine ⟨u, r, ?_⟩
    rcases l with l | ⟨k, c, e, z⟩
    · exact .inl l
    · exact .inr ⟨k, c, e, cellK x c e _ z⟩
  · obtain ⟨v, z⟩ := I.cell x c e
    exact ⟨v, cellK x c e v z⟩
  · obtain ⟨m, ⟨o, _, _, ho, _⟩, _⟩ := I.loc
    exact free _ o (fun z => (hch _ z).2.1 rfl) ho I.free
  · obtain ⟨v, o, ho, hd⟩ := I.cell x c e
    exact free c o (fun z => (hch c z).2.2.1 x c e rfl) ho (I.freeC x c e)
  · obtain ⟨e, n, ne, nf, d⟩ := I.pin p hp
    have nch : p.1 ∉ ch := fun z => (hch p.1 z).2.2.2 p hp rfl
    exact ⟨keep p.1 p.2 ne nf nch e n, free p.1 p.2 nch e n, ne, nf, d⟩
theorem Inv.un {t' : Nat} (I : Inv X pins σ H s) (u : Un X.fs [] H H' s.heap h') (hok : HOk X.prog X.w H' h') : Inv X pins σ H' { s with heap := h', toks := t' } := by
  obtain ⟨m, ⟨o, es, ep, ho, r⟩, _⟩ := id I.loc
  obtain ⟨sl, hL⟩ := u.any ho I.free (by simp)
  exact I.step (g' := s.gens) (d' := s.drawn) (ch := []) (fun _ z => nomatch z) (fun b o _ hb _ e n => u.keep b o e n hb (by simp)) (fun b o _ hb _ e n => u.slot b o e n hb (by simp)) (fun b o _ e n => u.free b o e n (by simp)) (fun b o _ e => u.there b o e (by simp)) u.tups u.frzs u.tbls (fun m' hm => by
    obtain ⟨o', es', ep', ho', r'⟩ := hm
    rw [ho] at ho'; cases ho'
    exact ⟨_, es', ep', hL, r'⟩) hok I.bare
theorem Inv.call {g' : Array GenState} {t' : Nat} {d' : Drawn} {ch : List Addr} (I : Inv X pins σ H s) (u : Un (frs X.stack) ch H H' s.heap h') (hok : HOk X.prog X.w H' h') (hg : AllBare g')
    (hch : ∀ b ∈ ch, (b ∈ X.ex ∨ X.s₀.heap.objs.size ≤ b) ∧ b ≠ X.env.locals ∧ (∀ x c, X.env.cells.lookup x = some c → c ≠ b) ∧ ∀ p ∈ X.pn ++ pins, p.1 ≠ b) :
    Inv X pins σ H' { s with heap := h', gens := g', drawn := d', toks := t' } := by
  obtain ⟨m, ⟨o, es, ep, ho, r⟩, _⟩ := id I.loc
  obtain ⟨sl, hL⟩ := u.any ho I.free fun z => (hch _ z).2.1 rfl
  exact I.step (ch := ch) hch (fun b o hL hb hc e n => u.keep b o e n (fun z => (List.mem_cons.mp (I.stkSub b z)).elim hL hb) hc) (fun b o _ _ hc e n => u.any e n hc) (fun b o hc e n => u.free b o e n hc) (fun b o hc e => u.there b o e hc) u.tups u.frzs u.tbls (fun m' hm => by
    obtain ⟨o', es', ep', ho', r'⟩ := hm
    rw [ho] at ho'; cases ho'
    exact ⟨_, es', ep', hL, r'⟩) hok hg
theorem Inv.turned {t' : Nat} {it : Addr} (I : Inv X pins σ H s) (k : ∀ b o, b ≠ it → s.heap.get? b = some o → h'.get? b = some o) (hn : H it = none) (hL : it ≠ X.env.locals)
    (h1 : it ∈ X.ex ∨ X.s₀.heap.objs.size ≤ it) (h2 : ∀ x c, X.env.cells.lookup x = some c → c ≠ it) (h3 : ∀ p ∈ X.pn ++ pins, p.1 ≠ it) : Inv X pins σ H { s with heap := h', toks := t' } := by
  have nit : ∀ b u, H b = some u → b ≠ it := fun b u e z => by rw [z, hn] at e; cases e
  refine I.step (g' := s.gens) (d' := s.drawn) (ch := [it]) (fun b hb => ?_) (fun b o _ _ hc e _ => k b o (fun z => hc (by simp [z])) e) (fun b o _ _ hc e _ => ⟨o.slots, k b o (fun z => hc (by simp [z])) e⟩) (fun _ _ _ _ n => n)
    (fun b o hc e => ⟨o, k b o (fun z => hc (by simp [z])) e⟩) (fun _ _ e => e) (fun _ _ _ e => e) (fun b ps e => ⟨#[], by rw [e]; simp⟩) (fun m hm => ?_) (fun b u e => ?_) I.bare
  · have e : b = it := by simpa using hb
    subst e
    exact ⟨h1, hL, h2, h3⟩
  · obtain ⟨o, es, ep, ho, r⟩ := hm
    exact ⟨o, es, ep, k _ o (Ne.symm hL) ho, r⟩
  · refine (I.hok b u e).stay (fun c v hc q => k c v ?_ q) (fun _ q => q) fun _ _ q => q
    rcases hc with z | z
    · rw [z]; exact nit b u e
    · exact nit c _ z
theorem Inv.tok (I : Inv X pins σ H s) (t : Nat) : Inv X pins σ H { s with toks := t } := I.un (h' := s.heap) (t' := t) Un.refl I.hok
theorem Inv.kept {t' : Nat} (I : Inv X pins σ H s) (k : ∀ b u, s.heap.get? b = some u → h'.get? b = some u) : Inv X pins σ H { s with heap := h', toks := t' } := I.un (Un.kept k) (I.hok.kept k)
theorem Inv.laid {a : Addr} {o : HO} {t' : Nat} (I : Inv X pins σ H s) (k : ∀ b u, s.heap.get? b = some u → h'.get? b = some u) (hp : s.heap.objs.size ≤ a) (new : ObjOk X.prog X.w (upd H a o) h' a o) :
    Inv X pins σ (upd H a o) { s with heap := h', toks := t' } := I.un (Un.laid k hp (I.hok.fresh hp)) (I.hok.laid k hp new)
theorem Inv.write {x e : Addr} {o : HO} {t' : Nat} (I : Inv X pins σ H s) (mu : Mut (H x)) (he : e = x ∨ H e = some (.own x)) (k : ∀ b u, b ≠ e → s.heap.get? b = some u → h'.get? b = some u) (heo : ∃ u, h'.get? e = some u)
    (new : ObjOk X.prog X.w (upd H x o) h' x o) : Inv X pins σ (upd H x o) { s with heap := h', toks := t' } := I.un (Un.write mu he k heo) (I.hok.write mu he k heo new)
theorem Inv.pins_of {pins' : List (Addr × Obj)} (I : Inv X pins σ H s) (h : ∀ p ∈ pins', s.heap.get? p.1 = some p.2 ∧ H p.1 = none ∧ p.1 ≠ X.env.locals ∧ p.1 ∉ X.fs ∧ ∀ v, p.2.data ≠ .cell v) : Inv X pins' σ H s :=
  ⟨I.ok, I.os, I.bare, I.base, I.loc, I.cell, I.free, I.freeC, fun p hp => (List.mem_append.mp hp).elim (fun z => I.pin p (List.mem_append_left _ z)) (h p), I.hok, I.len⟩
theorem nodup_ix {N : List Str} (hN : N.Nodup) {i j : Nat} {x : Str} (a : N[i]? = some x) (b : N[j]? = some x) : i = j := by
  obtain ⟨h1, e1⟩ := List.getElem?_eq_some_iff.mp a
  obtain ⟨h2, e2⟩ := List.getElem?_eq_some_iff.mp b
  exact (List.getElem_inj hN).mp (e1.trans e2.symm)
theorem store_ok2 {M : Model} {A : Around} {E : Value → Shared → Prop} {i : Nat} {x : Str} {v : V} {u : Value} {Q : Unit → Shared → Prop} (I : Inv X pins σ H s) (hN : X.N.Nodup) (hi : X.N[i]? = some x) (hx : Loc X.env.scope x) (r : RelV v u)
    (h : ∀ s', Inv X pins (σ.set i (some v)) H s' → (∃ a, Heap.SameBut a s.heap s'.heap ∧ (a = X.env.locals ∨ X.env.cells.lookup x = some a)) → Q () s') (hf : X.fn x = true ∨ X.env.scope.names.lookup x = some .local := by first | exact .inl rfl | exact .inr rfl | assumption) : wpAny M A (storeName X.env x u) Q E s := by
  obtain ⟨m, hn, hl⟩ := id I.loc
  have hcls : (X.env.scope.kind == .class || (X.env.scope.kind == .module && X.env.locals != X.env.globals)) = false := by rw [I.ok.kind]; rfl
  have hiσ : i < σ.length := by rw [I.len]; exact (List.getElem?_eq_some_iff.mp hi).1
  have cne := I.cne
  have tracked : ∀ {a : Addr} {h' : Heap}, (∃ o, s.heap.get? a = some o ∧ H a = none) → Heap.SameBut a s.heap h' → HOk X.prog X.w H h' := fun {a h'} ha hs b ob e => by
    obtain ⟨_, _, hfree⟩ := ha
    refine (I.hok b ob e).stay (fun c w' hc q => (hs.2 c ?_).trans q) (fun _ q => q) fun _ _ q => q
    rintro rfl
    rcases hc with rfl | hc
    · rw [hfree] at e; cases e
    · rw [hfree] at hc; cases hc
  rcases hx with hk | hk
  · refine wpAny_storeName_local hk hn (fun h' hn' hs => ?_) hcls
    obtain ⟨oL, _, _, hoL, _⟩ := id hn
    refine h _ ⟨I.ok, I.os, I.bare, ⟨fun b o e n hb hx => ?_, fun b o e n hb hx => ?_, I.base.free, fun b o e hx => ?_, I.base.tups, I.base.frzs, I.base.tbls⟩, ⟨_, hn', fun j y v' e1 e2 e3 => ?_⟩, fun y c e => ?_, I.free, I.freeC, fun p hp => ?_, tracked ⟨oL, hoL, I.free⟩ hs, by simpa using I.len⟩ ⟨_, hs, .inl rfl⟩
    · exact (hs.2 b (Nat.ne_of_lt (Nat.lt_of_lt_of_le (Heap.lt_size e) I.ok.above))).trans (I.base.keep b o e n hb hx)
    · obtain ⟨sl, e1⟩ := I.base.slot b o e n hb hx
      exact ⟨sl, (hs.2 b (Nat.ne_of_lt (Nat.lt_of_lt_of_le (Heap.lt_size e) I.ok.above))).trans e1⟩
    · obtain ⟨o', e1⟩ := I.base.there b o e hx
      exact ⟨o', (hs.2 b (Nat.ne_of_lt (Nat.lt_of_lt_of_le (Heap.lt_size e) I.ok.above))).trans e1⟩
    · by_cases hj : j = i
      · subst hj
        rw [hi] at e1; cases e1
        rw [List.getElem?_set_self hiσ] at e2
        cases e2
        exact ⟨u, r, .inl ⟨hk, by simp⟩⟩
      · rw [List.getElem?_set_ne (Ne.symm hj)] at e2
        obtain ⟨u', r', q⟩ := hl j y v' e1 e2 e3
        refine ⟨u', r', ?_⟩
        rcases q with ⟨k, e⟩ | ⟨k, c, e, z⟩
        · refine .inl ⟨k, ?_⟩
          have : y ≠ x := fun e => hj (nodup_ix hN e1 (e ▸ hi))
          simp [this, e]
        · exact .inr ⟨k, c, e, z.sameBut hs (cne y c e)⟩
    · obtain ⟨w', z⟩ := I.cell y c e
      exact ⟨w', z.sameBut hs (cne y c e)⟩
    · obtain ⟨e, n, ne, nf, d⟩ := I.pin p hp
      exact ⟨(hs.2 p.1 ne).trans e, n, ne, nf, d⟩
  · have hfn : X.fn x = true := by
      rcases hf with z | z
      · exact z
      · rw [z] at hk; cases hk
    obtain ⟨c, hc⟩ := I.ok.has x (.inl hk)
    obtain ⟨w', z⟩ := I.cell x c hc
    refine wpAny_storeName_cell I.ok.kind hk hc z (fun h' hc' hs => ?_)
    obtain ⟨oc, hoc, hocd⟩ := id z
    refine h { s with heap := h' } ⟨I.ok, I.os, I.bare, ⟨fun b o e n hb hx => ?_, fun b o e n hb hx => ?_, I.base.free, fun b o e hx => ?_, I.base.tups, I.base.frzs, I.base.tbls⟩, ⟨m, hn.sameBut hs (Ne.symm (cne x c hc)), fun j y v' e1 e2 e3 => ?_⟩, fun y c' e => ?_, I.free, I.freeC, fun p hp => ?_, tracked ⟨oc, hoc, I.freeC x c hc⟩ hs, by simpa using I.len⟩ ⟨c, hs, .inr hc⟩
    · exact (hs.2 b (Nat.ne_of_lt (Nat.lt_of_lt_of_le (Heap.lt_size e) (I.ok.cab x c hfn hc)))).trans (I.base.keep b o e n hb hx)
    · obtain ⟨sl, e1⟩ := I.base.slot b o e n hb hx
      exact ⟨sl, (hs.2 b (Nat.ne_of_lt (Nat.lt_of_lt_of_le (Heap.lt_size e) (I.ok.cab x c hfn hc)))).trans e1⟩
    · obtain ⟨o', e1⟩ := I.base.there b o e hx
      exact ⟨o', (hs.2 b (Nat.ne_of_lt (Nat.lt_of_lt_of_le (Heap.lt_size e) (I.ok.cab x c hfn hc)))).trans e1⟩
    · by_cases hj : j = i
      · subst hj
        rw [hi] at e1; cases e1
        rw [List.getElem?_set_self hiσ] at e2
        cases e2
        exact ⟨u, r, .inr ⟨.inl hk, c, hc, hc'⟩⟩
      · rw [List.getElem?_set_ne (Ne.symm hj)] at e2
        obtain ⟨u', r', q⟩ := hl j y v' e1 e2 e3
        refine ⟨u', r', ?_⟩
        rcases q with q | ⟨k, c', e, z'⟩
        · exact .inl q
        · refine .inr ⟨k, c', e, z'.sameBut hs ?_⟩
          rintro rfl
          exact hj (nodup_ix hN e1 (I.ok.inj _ _ _ e hc ▸ hi))
    · by_cases hcc : c' = c
      · subst hcc; exact ⟨_, hc'⟩
      · obtain ⟨w2, z2⟩ := I.cell y c' e
        exact ⟨w2, z2.sameBut hs hcc⟩
    · obtain ⟨e, n, ne, nf, d⟩ := I.pin p hp
      refine ⟨(hs.2 p.1 ?_).trans e, n, ne, nf, d⟩
      intro q
      rw [q, hoc] at e
      have q' : oc = p.2 := Option.some.inj e
      exact d w' (by rw [← q']; exact hocd)
theorem store_ok {M : Model} {A : Around} {E : Value → Shared → Prop} {i : Nat} {x : Str} {v : V} {u : Value} {Q : Unit → Shared → Prop} (I : Inv X pins σ H s) (hN : X.N.Nodup) (hi : X.N[i]? = some x) (hx : Loc X.env.scope x) (r : RelV v u)
    (h : ∀ s', Inv X pins (σ.set i (some v)) H s' → Q () s') (hf : X.fn x = true ∨ X.env.scope.names.lookup x = some .local := by first | exact .inl rfl | exact .inr rfl | assumption) : wpAny M A (storeName X.env x u) Q E s :=
  store_ok2 I hN hi hx r (fun s' I' _ => h s' I') hf
theorem Inv.call' {s' : Shared} {ch : List Addr} (I : Inv X pins σ H s) (ho : s'.os = s.os) (u : Un (frs X.stack) ch H H' s.heap s'.heap) (hok : HOk X.prog X.w H' s'.heap) (hg : AllBare s'.gens)
    (hch : ∀ b ∈ ch, (b ∈ X.ex ∨ X.s₀.heap.objs.size ≤ b) ∧ b ≠ X.env.locals ∧ (∀ x c, X.env.cells.lookup x = some c → c ≠ b) ∧ ∀ p ∈ X.pn ++ pins, p.1 ≠ b) : Inv X pins σ H' s' := by
  obtain ⟨h', g', d', t', o'⟩ := s'
  have e : o' = s.os := ho
  subst e
  exact I.call (g' := g') (t' := t') (d' := d') u hok hg hch
end
abbrev XK := Value → Option Addr → Hp → Prop
abbrev St := List (Option V)
abbrev VK := V → Hp → Prop
abbrev TE := St → Hp → VK → Prop
abbrev TT := St → Hp → (Bool → Hp → Prop) → Prop
abbrev TA := St → Hp → (List V → Hp → Prop) → Prop
structure Ends where
  nx : St → Hp → Prop
  rt : VK
  bk : St → Hp → Prop := fun _ _ => False
  ct : St → Hp → Prop := fun _ _ => False
abbrev TS := Ends → St → Hp → Prop
def EP (X : Cx) (pins : List (Addr × Obj)) (σ : St) (Q : VK) (u : Value) (s' : Shared) : Prop := ∃ v H', Inv X pins σ H' s' ∧ RelV v u ∧ Q v H'
def TP (X : Cx) (pins : List (Addr × Obj)) (σ : St) (Q : Bool → Hp → Prop) (b : Bool) (s' : Shared) : Prop := ∃ H', Inv X pins σ H' s' ∧ Q b H'
def AP (X : Cx) (pins : List (Addr × Obj)) (σ : St) (Q : List V → Hp → Prop) (us : List Value) (s' : Shared) : Prop := ∃ vs H', Inv X pins σ H' s' ∧ Vals vs us ∧ Q vs H'
def SP (X : Cx) (pins : List (Addr × Obj)) (D : Ends) (f : Flow) (s' : Shared) : Prop :=
  match f with
  | .next => ∃ σ' H', Inv X pins σ' H' s' ∧ D.nx σ' H'
  | .brk => ∃ σ' H', Inv X pins σ' H' s' ∧ D.bk σ' H'
  | .cont => ∃ σ' H', Inv X pins σ' H' s' ∧ D.ct σ' H'
  | .ret u => ∃ v σ' H', Inv X pins σ' H' s' ∧ RelV v u ∧ D.rt v H'
def PE (X : Cx) (e : Expr) (t : TE) : Prop :=
  ∀ (pins : List (Addr × Obj)) (s : Shared) (σ : St) (H : Hp) (Q : VK), Inv X pins σ H s → t σ H Q → wpAny (model X.prog X.w) X.A (eval e X.env) (EP X pins σ Q) X.xe s
def PT (X : Cx) (e : Expr) (t : TT) : Prop :=
  ∀ (pins : List (Addr × Obj)) (s : Shared) (σ : St) (H : Hp) (Q : Bool → Hp → Prop), Inv X pins σ H s → t σ H Q → wpAny (model X.prog X.w) X.A (isTrue e X.env (eval e X.env)) (TP X pins σ Q) X.xe s
def PW (X : Cx) (e : Expr) (t : TT) : Prop :=
  ∀ (whole : Sem Value) (pins : List (Addr × Obj)) (s : Shared) (σ : St) (H : Hp) (Q : Bool → Hp → Prop), Inv X pins σ H s → t σ H Q → wpAny (model X.prog X.w) X.A (isTrue e X.env whole) (TP X pins σ Q) X.xe s
theorem PW.pt {X : Cx} {e : Expr} {t : TT} (h : PW X e t) : PT X e t := h _
def PA (X : Cx) (es : List Expr) (t : TA) : Prop :=
  ∀ (pos : Pos) (pins : List (Addr × Obj)) (s : Shared) (σ : St) (H : Hp) (Q : List V → Hp → Prop), Inv X pins σ H s → t σ H Q → wpAny (model X.prog X.w) X.A (spliced (backTo pos (starEach es X.env))) (AP X pins σ Q) X.xe s
def PS (X : Cx) (st : Stmt) (t : TS) : Prop :=
  ∀ (pins : List (Addr × Obj)) (s : Shared) (σ : St) (H : Hp) (D : Ends), Inv X pins σ H s → t D σ H → wpAny (model X.prog X.w) X.A (exec st X.env) (SP X pins D) X.xe s
def PSs (X : Cx) (st : List Stmt) (t : TS) : Prop :=
  ∀ (pins : List (Addr × Obj)) (s : Shared) (σ : St) (H : Hp) (D : Ends), Inv X pins σ H s → t D σ H → wpAny (model X.prog X.w) X.A (execs st X.env) (SP X pins D) X.xe s
theorem thn {α : Type} {t : Sem α} {Q Q' : α → Shared → Prop} {M : Model} {A : Around} {E : Value → Shared → Prop} {s : Shared} (h : wpAny M A t Q E s) (hQ : ∀ a s, Q a s → Q' a s) : wpAny M A t Q' E s := wpAny_mono h hQ fun _ _ x => x
end L2
namespace L2
open PySem PySem.Spec PyProof.Rows
section
variable {X : Cx}
def tVar (i : Nat) : TE := fun σ H Q => ∃ v, σ[i]? = some (some v) ∧ Q v H
def tC (v : V) : TE := fun _ H Q => Q v H
theorem pe_var {i : Nat} {x : Str} {pos : Pos} (hN : X.N[i]? = some x) (hv : Vis X.env.scope x) (hd : (x == ("__debug__" : Str)) = false := by decide) (hcd : (x == ("__classdict__" : Str)) = false := by decide) : PE X (.Name x pos) (tVar i) := by
  intro pins s σ H Q I h
  obtain ⟨v, e, h⟩ := h
  obtain ⟨m, hn, hl⟩ := I.loc
  obtain ⟨u, r, l⟩ := hl i x v hN e hv
  have fin : EP X pins σ Q u s := ⟨v, H, I, r, h⟩
  rcases l with ⟨hk, hm⟩ | ⟨hk, c, hc, hcell⟩
  · exact wpAny_Name (wpAny_loadName_local I.ok.kind hk hn hm fin) hd
  · rcases hk with hk | hk
    · exact wpAny_Name (wpAny_loadName_cell I.ok.kind hk hc hcell fin) hd
    · exact wpAny_Name (wpAny_loadName_free I.ok.kind hk hc hcell fin hcd) hd
theorem pe_int {i j pos} : PE X (.Constant (.int i) j pos) (tC (.int i)) := fun _ _ _ H _ I h => wpAny_Constant_int ⟨.int i, H, I.tok _, ⟨_, rfl⟩, h⟩
theorem pe_bl {b j pos} : PE X (.Constant (.bool b) j pos) (tC (.bl b)) := fun _ _ _ H _ I h => Constant_bool ⟨.bl b, H, I, rfl, h⟩
theorem pe_non {j pos} : PE X (.Constant .none j pos) (tC .non) := fun _ _ _ H _ I h => Constant_none ⟨.non, H, I, rfl, h⟩
theorem pe_str {x j pos} : PE X (.Constant (.str x) j pos) (tC (.str x)) := fun _ _ _ H _ I h => Calls.Constant_str ⟨.str x, H, I.tok _, ⟨_, rfl⟩, h⟩
def Gl (X : Cx) (x : Str) : Prop := X.env.kindOf x = some .globalImplicit
theorem ld_glob {E : Value → Shared → Prop} {pins : List (Addr × Obj)} {s : Shared} {σ : St} {H : Hp} {x : Str} {u : Value} {pos : Pos} {Q : Value → Shared → Prop} (I : Inv X pins σ H s) (hg : Gl X x) (hm : X.mg x = some u) (h : Q u s)
    (hd : (x == ("__debug__" : Str)) = false := by decide) : wpAny (model X.prog X.w) X.A (eval (.Name x pos) X.env) Q E s :=
  Calls.Name_function_global I.ok.kind hg (Calls.loadGlobal_global (by rw [I.ok.glob]; exact I.mod.glob.keeps I.bk) hm h) hd
theorem ld_blt {E : Value → Shared → Prop} {pins : List (Addr × Obj)} {s : Shared} {σ : St} {H : Hp} {x : Str} {u : Value} {pos : Pos} {Q : Value → Shared → Prop} (I : Inv X pins σ H s) (hg : Gl X x) (hm : X.mg x = none) (hv : bootBuiltins x = some u) (h : Q u s)
    (hn : x ≠ "__name__" := by decide) (hd : (x == ("__debug__" : Str)) = false := by decide) : wpAny (model X.prog X.w) X.A (eval (.Name x pos) X.env) Q E s := by
  obtain ⟨mb, h1, h2⟩ := I.mod.blt
  exact Calls.Name_function_global I.ok.kind hg (Calls.loadGlobal_builtin (by rw [I.ok.glob]; exact I.mod.glob.keeps I.bk) hm (by rw [I.ok.blt]; exact h1.keeps I.bk) ((h2 x hn).trans hv) h) hd
theorem pe_glob {x : Str} {v : V} {u : Value} {pos : Pos} (hg : Gl X x) (hm : X.mg x = some u) (r : RelV v u) (hd : (x == ("__debug__" : Str)) = false := by decide) : PE X (.Name x pos) (tC v) :=
  fun _ _ _ H _ I h => ld_glob I hg hm ⟨v, H, I, r, h⟩ hd
theorem pe_bltn {x : Str} {v : V} {u : Value} {pos : Pos} (hg : Gl X x) (hm : X.mg x = none) (hv : bootBuiltins x = some u) (r : RelV v u) (hn : x ≠ "__name__" := by decide) (hd : (x == ("__debug__" : Str)) = false := by decide) : PE X (.Name x pos) (tC v) :=
  fun _ _ _ H _ I h => ld_blt I hg hm hv ⟨v, H, I, r, h⟩ hn hd
variable {a b : Expr} {ta tb : TE} {pos : Pos}
def tB (t : TE) : TT := fun σ H Q => t σ H fun x H1 => ∃ c, x = .bl c ∧ Q c H1
theorem pt_val {e : Expr} {t : TE} (h : PE X e t) (he : ∀ whole, isTrue e X.env whole = (do let v ← whole; standAt e.pos; holding [v] (truthy v)) := by intro _; rfl) : PT X e (tB t) := by
  intro pins s σ H Q I hw
  refine isTrue_plain (thn (h pins s σ H _ I hw) fun v s1 ⟨x, H1, I1, r1, q1⟩ => ?_) (he _)
  obtain ⟨d, rfl, q⟩ := q1
  cases r1
  exact wpAny_truthy_bool ⟨H1, I1, q⟩
variable {tA tB' : TT} {rest : List Expr}
def tAnd (t u : TT) : TT := fun σ H Q => t σ H fun c H1 => if c = true then u σ H1 Q else Q false H1
def tOr (t u : TT) : TT := fun σ H Q => t σ H fun c H1 => if c = true then Q true H1 else u σ H1 Q
def tNot (t : TT) : TT := fun σ H Q => t σ H fun c H1 => Q (!c) H1
theorem pw_and1 (ha : PT X a tA) : PW X (.BoolOp .And [a] pos) tA := by
  intro wh pins s σ H Q I h
  refine isTrue_and (thn (ha pins s σ H Q I h) fun c s1 e => ?_)
  cases c with
  | true => exact isTrue_and_nil e
  | false => exact e
theorem pw_or1 (ha : PT X a tA) : PW X (.BoolOp .Or [a] pos) tA := by
  intro wh pins s σ H Q I h
  refine isTrue_or (thn (ha pins s σ H Q I h) fun c s1 e => ?_)
  cases c with
  | false => exact isTrue_or_nil e
  | true => exact e
theorem pw_and (ha : PT X a tA) (hb : PW X (.BoolOp .And (b :: rest) pos) tB') : PW X (.BoolOp .And (a :: b :: rest) pos) (tAnd tA tB') := by
  intro wh pins s σ H Q I h
  refine isTrue_and (thn (ha pins s σ H _ I h) fun c s1 ⟨H1, I1, q1⟩ => ?_)
  cases c with
  | true => exact hb wh pins s1 σ H1 Q I1 q1
  | false => exact ⟨H1, I1, q1⟩
theorem pw_or (ha : PT X a tA) (hb : PW X (.BoolOp .Or (b :: rest) pos) tB') : PW X (.BoolOp .Or (a :: b :: rest) pos) (tOr tA tB') := by
  intro wh pins s σ H Q I h
  refine isTrue_or (thn (ha pins s σ H _ I h) fun c s1 ⟨H1, I1, q1⟩ => ?_)
  cases c with
  | true => exact ⟨H1, I1, q1⟩
  | false => exact hb wh pins s1 σ H1 Q I1 q1
theorem pt_not (ha : PT X a tA) : PT X (.UnaryOp .Not a pos) (tNot tA) := by
  intro pins s σ H Q I h
  exact isTrue_not (ha pins s σ H (fun c H1 => Q (!c) H1) I h)
def tAndV (ta tb : TE) : TE := fun σ H Q => ta σ H fun x H1 => ∃ c, x = .bl c ∧ if c = true then tb σ H1 Q else Q (.bl false) H1
def tOrV (ta tb : TE) : TE := fun σ H Q => ta σ H fun x H1 => ∃ c, x = .bl c ∧ if c = true then Q (.bl true) H1 else tb σ H1 Q
theorem pe_one {op} {t : TE} (h : PE X a t) : PE X (.BoolOp op [a] pos) t := fun pins s σ H Q I hw => BoolOp_one (h pins s σ H Q I hw)
theorem pe_and (ha : PE X a ta) (hb : PE X (.BoolOp .And (b :: rest) pos) tb) : PE X (.BoolOp .And (a :: b :: rest) pos) (tAndV ta tb) := by
  intro pins s σ H Q I h
  refine BoolOp_and (thn (ha pins s σ H _ I h) fun v s1 ⟨x, H1, I1, r1, q1⟩ => ?_)
  obtain ⟨c, rfl, q1⟩ := q1
  cases r1
  refine wpAny_truthy_bool ?_
  cases c with
  | true => exact hb pins s1 σ H1 Q I1 q1
  | false => exact ⟨.bl false, H1, I1, rfl, q1⟩
theorem pe_or (ha : PE X a ta) (hb : PE X (.BoolOp .Or (b :: rest) pos) tb) : PE X (.BoolOp .Or (a :: b :: rest) pos) (tOrV ta tb) := by
  intro pins s σ H Q I h
  refine BoolOp_or (thn (ha pins s σ H _ I h) fun v s1 ⟨x, H1, I1, r1, q1⟩ => ?_)
  obtain ⟨c, rfl, q1⟩ := q1
  cases r1
  refine wpAny_truthy_bool ?_
  cases c with
  | false => exact hb pins s1 σ H1 Q I1 q1
  | true => exact ⟨.bl true, H1, I1, rfl, q1⟩
end
end L2
namespace L2
open PySem PySem.Spec PyProof.Rows
def SqL (K : PySem.W.Frag) (H : Hp) (a : Addr) (xs : List V) : Prop :=
  Rd H a (.lst xs) ∨
    ∃ (o : Obj) (its : Array Value) (n : Nat), K.lookup a = some o ∧ o.cls = .type "list" ∧ o.dict = none ∧ o.data = .seq its n ∧ its.size ≤ sizeLine ∧ Vals xs its.toList
def SqT (K : PySem.W.Frag) (H : Hp) (a : Addr) (xs : List V) : Prop :=
  Rd H a (.tup xs) ∨
    ∃ (o : Obj) (its : Array Value) (n : Nat), K.lookup a = some o ∧ o.cls = .type "tuple" ∧ o.data = .seq its n ∧ its.size ≤ sizeLine ∧ Vals xs its.toList
def absV : Value → Option V
  | .none => some .non
  | .bool b => some (.bl b)
  | .int i _ => some (.int i)
  | .str x _ => some (.str x)
  | .bytes b _ => some (.byt b)
  | .float b _ => some (.flt b)
  | .ref a => some (.ref a)
  | .type n => some (.ty n)
  | _ => none
theorem RelV.abs {x : V} {u : Value} (r : RelV x u) : absV u = some x := by
  cases x with
  | non => cases r; rfl
  | bl _ => cases r; rfl
  | int _ => obtain ⟨t, rfl⟩ := r; rfl
  | str _ => obtain ⟨t, rfl⟩ := r; rfl
  | byt _ => obtain ⟨t, rfl⟩ := r; rfl
  | flt _ => obtain ⟨t, rfl⟩ := r; rfl
  | ref _ => cases r; rfl
  | ty _ => cases r; rfl
theorem RelV.inj {x y : V} {u : Value} (r : RelV x u) (q : RelV y u) : x = y := Option.some.inj (r.abs.symm.trans q.abs)
theorem Vals.inj : ∀ {xs ys : List V} {us : List Value}, Vals xs us → Vals ys us → xs = ys
  | _, _, _, .nil, .nil => rfl
  | _, _, _, .cons r t, .cons r' t' => by rw [r.inj r', Vals.inj t t']
section
variable {X : Cx} {pins : List (Addr × Obj)} {σ : St} {H : Hp} {s : Shared} {a : Addr} {xs ys : List V}
theorem SqL.of {K : PySem.W.Frag} (h : H a = some (.lst xs)) : SqL K H a xs := .inl (.inl h)
theorem SqT.of {K : PySem.W.Frag} (h : H a = some (.tup xs)) : SqT K H a xs := .inl (.inl h)
theorem Inv.list (I : Inv X pins σ H s) (h : SqL X.K H a xs) : ∃ its : List Value, Vals xs its ∧ PlainL s.heap a its.toArray ∧ xs.length ≤ sizeLine := by
  rcases h with h | ⟨o, its, n, hk, hc, hd, hs, hz, r⟩
  · obtain ⟨z, its, n, r, e⟩ := h.ok I.hok
    exact ⟨its, r, ⟨_, n, e, rfl, rfl, rfl⟩, z⟩
  · refine ⟨its.toList, r, ⟨o, n, I.kIn a o hk, hc, hd, by simpa using hs⟩, ?_⟩
    have e := r.length
    simp only [Array.length_toList] at e
    omega
theorem Inv.tuple (I : Inv X pins σ H s) (h : SqT X.K H a xs) : ∃ its : List Value, Vals xs its ∧ IsTup s.heap a its.toArray ∧ xs.length ≤ sizeLine := by
  rcases h with h | ⟨o, its, n, hk, hc, hs, hz, r⟩
  · obtain ⟨z, its, r, p⟩ := h.ok I.hok
    exact ⟨its, r, p, z⟩
  · refine ⟨its.toList, r, ⟨o, I.kIn a o hk, hc, n, by simpa using hs⟩, ?_⟩
    have e := r.length
    simp only [Array.length_toList] at e
    omega
theorem Inv.list_inj (I : Inv X pins σ H s) (h : SqL X.K H a xs) (h' : SqL X.K H a ys) : xs = ys := by
  obtain ⟨its, r, ⟨o, n, e, _, _, d⟩, _⟩ := I.list h
  obtain ⟨its', r', ⟨o', n', e', _, _, d'⟩, _⟩ := I.list h'
  rw [e] at e'; cases e'
  rw [d] at d'
  injection d' with d1 _
  have : its = its' := by simpa using congrArg Array.toList d1
  subst this
  exact r.inj r'
theorem Inv.tuple_inj (I : Inv X pins σ H s) (h : SqT X.K H a xs) (h' : SqT X.K H a ys) : xs = ys := by
  obtain ⟨its, r, ⟨o, e, _, n, d⟩, _⟩ := I.tuple h
  obtain ⟨its', r', ⟨o', e', _, n', d'⟩, _⟩ := I.tuple h'
  rw [e] at e'; cases e'
  rw [d] at d'
  injection d' with d1 _
  have : its = its' := by simpa using congrArg Array.toList d1
  subst this
  exact r.inj r'
end
abbrev Cx.wish (X : Cx) (E : Value → Shared → Prop) : Cx := { X with xe := E }
abbrev Cx.nox (X : Cx) : Cx := X.wish fun _ _ => False
theorem Cx.Ok.wish {X : Cx} (ok : X.Ok) (E : Value → Shared → Prop) : (X.wish E).Ok :=
  ⟨ok.mod, ok.kind, ok.glob, ok.blt, ok.above, ok.inj, ok.has, ok.cab, ok.hd, ok.frames, ok.stk, ok.exf, ok.bs, ok.bsz, ok.noex, ok.exfs, ok.funs, ok.frf⟩
theorem Cx.Ok.unwish {X : Cx} {E : Value → Shared → Prop} (ok : (X.wish E).Ok) : X.Ok :=
  ⟨ok.mod, ok.kind, ok.glob, ok.blt, ok.above, ok.inj, ok.has, ok.cab, ok.hd, ok.frames, ok.stk, ok.exf, ok.bs, ok.bsz, ok.noex, ok.exfs, ok.funs, ok.frf⟩
section
variable {X : Cx} {pins : List (Addr × Obj)} {σ : St} {H : Hp} {s : Shared} {E : Value → Shared → Prop}
theorem Inv.wish (I : Inv X pins σ H s) (E : Value → Shared → Prop) : Inv (X.wish E) pins σ H s := ⟨I.ok.wish E, I.os, I.bare, I.base, I.loc, I.cell, I.free, I.freeC, I.pin, I.hok, I.len⟩
theorem Inv.unwish (I : Inv (X.wish E) pins σ H s) : Inv X pins σ H s := ⟨I.ok.unwish, I.os, I.bare, I.base, I.loc, I.cell, I.free, I.freeC, I.pin, I.hok, I.len⟩
theorem SP.unwish {D : Ends} {f : Flow} {s' : Shared} (h : SP (X.wish E) pins D f s') : SP X pins D f s' := by
  cases f with
  | next => obtain ⟨σ', H', I, q⟩ := h; exact ⟨σ', H', I.unwish, q⟩
  | brk => obtain ⟨σ', H', I, q⟩ := h; exact ⟨σ', H', I.unwish, q⟩
  | cont => obtain ⟨σ', H', I, q⟩ := h; exact ⟨σ', H', I.unwish, q⟩
  | ret u => obtain ⟨v, σ', H', I, r, q⟩ := h; exact ⟨v, σ', H', I.unwish, r, q⟩
theorem PE.nox {e : Expr} {t : TE} (h : PE X.nox e t) : PE X e t := fun pins s σ H Q I hw =>
  wpAny_mono (h pins s σ H Q (I.wish _) hw) (fun _ _ ⟨v, H', I', r, q⟩ => ⟨v, H', I'.unwish, r, q⟩) fun _ _ z => False.elim z
theorem PT.nox {e : Expr} {t : TT} (h : PT X.nox e t) : PT X e t := fun pins s σ H Q I hw =>
  wpAny_mono (h pins s σ H Q (I.wish _) hw) (fun _ _ ⟨H', I', q⟩ => ⟨H', I'.unwish, q⟩) fun _ _ z => False.elim z
theorem PSs.nox {st : List Stmt} {t : TS} (h : PSs X.nox st t) : PSs X st t := fun pins s σ H D I hw =>
  wpAny_mono (h pins s σ H D (I.wish _) hw) (fun _ _ q => q.unwish) fun _ _ z => False.elim z
end
section
variable {X : Cx} {st : Stmt} {rest : List Stmt} {t u : TS} {e : Expr} {te : TE} {pos : Pos}
def tNext : TS := fun D σ H => D.nx σ H
def tSeq (t u : TS) : TS := fun D σ H => t { D with nx := u D } σ H
theorem pss_nil : PSs X [] tNext := fun _ _ σ H _ I h => wpAny_execs_nil ⟨σ, H, I, h⟩
theorem pss_cons (h1 : PS X st t) (h2 : PSs X rest u) : PSs X (st :: rest) (tSeq t u) := by
  intro pins s σ H D I h
  refine wpAny_execs_cons (thn (h1 pins s σ H { D with nx := u D } I h) fun f s1 q => ?_)
  cases f with
  | next =>
    obtain ⟨σ', H', I', q⟩ := q
    exact h2 pins s1 σ' H' D I' q
  | ret v => exact q
  | brk => exact q
  | cont => exact q
theorem pss_one (h1 : PS X st t) : PSs X [st] t := by
  intro pins s σ H D I h
  refine wpAny_execs_cons (thn (h1 pins s σ H D I h) fun f s1 q => ?_)
  cases f with
  | next => exact wpAny_execs_nil q
  | ret v => exact q
  | brk => exact q
  | cont => exact q
theorem Inv.quiet {pins : List (Addr × Obj)} {σ : St} {H : Hp} {s : Shared} (I : Inv X pins σ H s) : interactive X.env = false := by simp [interactive, I.ok.kind]
def tDrop (te : TE) : TS := fun D σ H => te σ H fun _ H1 => D.nx σ H1
theorem ps_expr (he : PE X e te) (hs : swapsWith e none pos.line X.env = pure false := by rfl) : PS X (.Expr e pos) (tDrop te) := by
  intro pins s σ H D I h
  exact wpAny_Expr_any (thn (he pins s σ H _ I h) fun v s1 ⟨x, H1, I1, r1, q1⟩ => ⟨σ, H1, I1, q1⟩) I.quiet hs
def tRet (te : TE) : TS := fun D σ H => te σ H D.rt
theorem ps_ret (he : PE X e te) : PS X (.Return (some e) pos) (tRet te) := by
  intro pins s σ H D I h
  exact wpAny_Return_some (thn (he pins s σ H _ I h) fun v s1 ⟨x, H1, I1, r1, q1⟩ => ⟨x, σ, H1, I1, r1, q1⟩)
def tIfS (c : TT) (t u : TS) : TS := fun D σ H => c σ H fun b H1 => if b = true then t D σ H1 else u D σ H1
theorem ps_if {c : Expr} {a b : List Stmt} {tc : TT} (hc : PT X c tc) (ha : PSs X a t) (hb : PSs X b u) : PS X (.If c a b pos) (tIfS tc t u) := by
  intro pins s σ H D I h
  refine wpAny_If (thn (hc pins s σ H _ I h) fun d s1 ⟨H1, I1, q1⟩ => ?_)
  cases d with
  | true => exact ha pins s1 σ H1 D I1 q1
  | false => exact hb pins s1 σ H1 D I1 q1
end
abbrev TG := V → St → Hp → (St → Hp → Prop) → Prop
abbrev TGs := List V → St → Hp → (St → Hp → Prop) → Prop
def PG (X : Cx) (target : Expr) (t : TG) : Prop :=
  ∀ (pins : List (Addr × Obj)) (s : Shared) (σ : St) (H : Hp) (v : V) (u : Value) (Q : St → Hp → Prop), Inv X pins σ H s → RelV v u → t v σ H Q →
    wpAny (model X.prog X.w) X.A (assign target X.env u) (fun _ s' => ∃ σ' H', Inv X pins σ' H' s' ∧ Q σ' H') X.xe s
def PGs (X : Cx) (ts : List Expr) (t : TGs) : Prop :=
  ∀ (pins : List (Addr × Obj)) (s : Shared) (σ : St) (H : Hp) (vs : List V) (us : List Value) (Q : St → Hp → Prop), Inv X pins σ H s → Vals vs us → t vs σ H Q →
    wpAny (model X.prog X.w) X.A (assignInOrder ((assignEach ts X.env).map (·.2)) us) (fun _ s' => ∃ σ' H', Inv X pins σ' H' s' ∧ Q σ' H') X.xe s
section
variable {X : Cx} {pos : Pos}
def gName (i : Nat) : TG := fun v σ H Q => Q (σ.set i (some v)) H
theorem pg_name {i : Nat} {x : Str} (hN : X.N.Nodup) (hi : X.N[i]? = some x) (hx : Loc X.env.scope x) (hf : X.fn x = true ∨ X.env.scope.names.lookup x = some .local := by first | exact .inl rfl | exact .inr rfl | assumption) : PG X (.Name x pos) (gName i) := by
  intro pins s σ H v u Q I r h
  exact wpAny_assign_Name (store_ok I hN hi hx r (fun s' I' => ⟨_, H, I', h⟩) hf)
def tAsg (te : TE) (g : TG) : TS := fun D σ H => te σ H fun x H1 => g x σ H1 D.nx
theorem ps_set {i : Nat} {x : Str} {e : Expr} {te : TE} {pos' : Pos} (hN : X.N.Nodup) (hi : X.N[i]? = some x) (hx : Loc X.env.scope x) (he : PE X e te) (hs : swapsWith e (some (.Name x pos')) pos.line X.env = pure false := by rfl) (hf : X.fn x = true ∨ X.env.scope.names.lookup x = some .local := by first | exact .inl rfl | exact .inr rfl | assumption) :
    PS X (.Assign [.Name x pos'] e pos) (tAsg te (gName i)) := by
  intro pins s σ H D I h
  refine wpAny_Assign_Name (thn (he pins s σ H _ I h) fun v s1 ⟨y, H1, I1, r1, q1⟩ => ?_) hs
  exact store_ok I1 hN hi hx r1 (fun s2 I2 => ⟨_, H1, I2, q1⟩) hf
end
section
variable {X : Cx} {pos : Pos}
end
structure It where
  go : Nat → Hp → Prop
  yld : Nat → Hp → V → Hp → Prop
  stop : Nat → Hp → Prop
def FpOk (X : Cx) (pins : List (Addr × Obj)) (H : Hp) (b : Addr) : Prop :=
  H b = none ∧ b ≠ X.env.locals ∧ b ∉ X.fs ∧ (b ∈ X.ex ∨ X.s₀.heap.objs.size ≤ b) ∧ (∀ x c, X.env.cells.lookup x = some c → c ≠ b) ∧ ∀ p ∈ X.pn ++ pins, p.1 ≠ b
theorem Inv.fpOk {X : Cx} {pins : List (Addr × Obj)} {σ : St} {H H' : Hp} {s : Shared} {b : Addr} (I : Inv X pins σ H s) (hb : s.heap.objs.size ≤ b) (hn : H' b = none) : FpOk X pins H' b := by
  refine ⟨hn, Nat.ne_of_gt (Nat.lt_of_lt_of_le I.lt hb), I.nofs hb, .inr (Nat.le_trans I.sz hb), fun x c e z => ?_, fun p hp z => ?_⟩
  · obtain ⟨v, q⟩ := I.cell x c e
    exact absurd (Nat.lt_of_lt_of_le q.lt (by rw [z]; exact hb)) (Nat.lt_irrefl _)
  · exact absurd (Nat.lt_of_lt_of_le (Heap.lt_size (I.pin p hp).1) (by rw [z]; exact hb)) (Nat.lt_irrefl _)
structure Turn (P : Program) (w : World) (K : PySem.W.Frag) (tg : Expr) (J : It) (fp : List Addr) (it : Addr) (tn : Nat → Heap → Prop) : Prop where
  mem : it ∈ fp
  obj : ∀ i h, tn i h → ∀ b ∈ fp, ∃ o, h.get? b = some o ∧ ∀ v, o.data ≠ .cell v
  keep : ∀ i h h', tn i h → (∀ b ∈ fp, ∀ o, h.get? b = some o → h'.get? b = some o) → tn i h'
  item : ∀ (X : Cx), X.prog = P → X.w = w → X.K = K → X.calm = true → ∀ (i : Nat) (pins : List (Addr × Obj)) (s : Shared) (σ : St) (H : Hp) (E : Value → Shared → Prop), Inv X pins σ H s → (∀ b ∈ fp, FpOk X pins H b) → tn i s.heap → J.go i H →
    wpAny (model P w) X.A (pyNext (.ref it)) (fun r s1 => ∃ u, r = some u ∧
      wpAny (model P w) X.A (letOwnedTupleGo tg (.ref it) u) (fun _ s2 => ∃ x H', Inv X pins σ H' s2 ∧ RelV x u ∧ J.yld i H x H' ∧ tn (i + 1) s2.heap ∧ ∀ b ∈ fp, H' b = none) E s1) E s
  done : ∀ (X : Cx), X.prog = P → X.w = w → X.K = K → X.calm = true → ∀ (i : Nat) (pins : List (Addr × Obj)) (s : Shared) (σ : St) (H : Hp) (E : Value → Shared → Prop), Inv X pins σ H s → (∀ b ∈ fp, FpOk X pins H b) → tn i s.heap → J.stop i H →
    wpAny (model P w) X.A (pyNext (.ref it)) (fun r s1 => r = none ∧ Inv X pins σ H s1) E s
  self : ∀ (A : Around) (i : Nat) (s : Shared) (Q : Value → Shared → Prop) (E : Value → Shared → Prop), tn i s.heap → Q (.ref it) s → wpAny (model P w) A (pyIter (.ref it)) Q E s
abbrev TI := St → Hp → (It → Hp → Prop) → Prop
def PIE (X : Cx) (pins : List (Addr × Obj)) (σ : St) (tg : Expr) (R : It → Hp → Prop) (itv : Value) (s2 : Shared) : Prop :=
  ∃ (it : Addr) (fp : List Addr) (tn : Nat → Heap → Prop) (J : It) (H' : Hp), itv = .ref it ∧ Inv X pins σ H' s2 ∧ Turn X.prog X.w X.K tg J fp it tn ∧ tn 0 s2.heap ∧ (∀ b ∈ fp, FpOk X pins H' b) ∧ R J H'
def PI (X : Cx) (tg iter : Expr) (wi : TI) : Prop :=
  ∀ (pins : List (Addr × Obj)) (s : Shared) (σ : St) (H : Hp) (R : It → Hp → Prop), Inv X pins σ H s → wi σ H R →
    wpAny (model X.prog X.w) X.A (eval iter X.env) (fun v s1 => wpAny (model X.prog X.w) X.A (pyIter v) (PIE X pins σ tg R) X.xe s1) X.xe s
theorem go_of {M : Model} {A : Around} {E : Value → Shared → Prop} {s : Shared} {tg : Expr} {it : Addr} {u : Value} {o : Obj} {n : String} {vs : Array Value} {Q : Unit → Shared → Prop} (ho : s.heap.get? it = some o) (hc : o.cls = .type n) (hd : o.data = .fields vs)
    (hn : ["enumerate", "zip", "dict_itemiterator", "dict_reverseitemiterator", "odict_iterator", "itertools.zip_longest", "itertools.pairwise"].contains n = false) (hQ : Q () s) : wpAny M A (letOwnedTupleGo tg (.ref it) u) Q E s := by
  unfold letOwnedTupleGo
  cases tg <;> first
    | exact wpAny_pure hQ
    | (cases u <;> first
        | exact wpAny_pure hQ
        | (refine wpAny_bind (wpAny_load ho ?_)
           rw [hc, hd]
           show wpAny M A (if (["enumerate", "zip", "dict_itemiterator", "dict_reverseitemiterator", "odict_iterator", "itertools.zip_longest", "itertools.pairwise"].contains n && vs[0]? == some (rawInt _)) = true then _ else _) Q E s
           rw [if_neg (by intro h; rw [hn, Bool.false_and] at h; cases h)]
           exact wpAny_pure hQ))
def Itl (K : PySem.W.Frag) (a : Addr) : It :=
  ⟨fun i H => ∃ xs x, SqL K H a xs ∧ xs[i]? = some x, fun i H x H' => H' = H ∧ ∀ xs, SqL K H a xs → xs[i]? = some x, fun i H => ∃ xs, SqL K H a xs ∧ xs.length ≤ i⟩
def Itt (K : PySem.W.Frag) (a : Addr) : It :=
  ⟨fun i H => ∃ xs x, SqT K H a xs ∧ xs[i]? = some x, fun i H x H' => H' = H ∧ ∀ xs, SqT K H a xs → xs[i]? = some x, fun i H => ∃ xs, SqT K H a xs ∧ xs.length ≤ i⟩
def Itr (lo : Int) (n : Nat) : It := ⟨fun i _ => i < n, fun i H x H' => H' = H ∧ x = .int (lo + i), fun i _ => n ≤ i⟩
theorem turn_list {P : Program} {w : World} {K : PySem.W.Frag} {tg : Expr} (a it : Addr) : Turn P w K tg (Itl K a) [it] it (fun i h => h.IsListIter it a i) where
  mem := by simp
  obj := fun i h st b hb => by
    have e : b = it := by simpa using hb
    subst e
    obtain ⟨o, e, c, d⟩ := st
    exact ⟨o, e, fun v z => by rw [d] at z; cases z⟩
  keep := fun i h h' st k => st.at fun o e => k it (by simp) o e
  item := by
    intro X hP hw hK hc i pins s σ H E I hf st hg
    subst hP hw hK
    obtain ⟨xs, x, hq, hx⟩ := hg
    obtain ⟨its, rv, p, hz⟩ := I.list hq
    obtain ⟨u, hu, ru⟩ := rv.get hx
    obtain ⟨f0, f1, f2, f3, f4, f5⟩ := hf it (by simp)
    refine wpAny_pyNext_list_item st p.isList (x := u) (by simpa using hu) fun h' st' sb => ?_
    have I1 : Inv X pins σ H { s with heap := h' } := I.turned (t' := s.toks) (fun b o hb e => (sb.2 b hb).trans e) f0 f1 f3 f4 f5
    obtain ⟨o, e, c, d⟩ := id st'
    exact ⟨u, rfl, go_of (s := { s with heap := h' }) e c d (by decide) ⟨x, H, I1, ru, ⟨rfl, fun ys hy => by rw [I.list_inj hy hq]; exact hx⟩, st', fun b hb => (hf b hb).1⟩⟩
  done := by
    intro X hP hw hK hc i pins s σ H E I hf st hg
    subst hP hw hK
    obtain ⟨xs, hq, hx⟩ := hg
    obtain ⟨its, rv, p, hz⟩ := I.list hq
    obtain ⟨f0, f1, f2, f3, f4, f5⟩ := hf it (by simp)
    have hl := rv.length
    exact wpAny_pyNext_list_end (I.ok.hd hc) st p.isList (by simp; omega) fun h' eb => ⟨rfl, I.turned (t' := s.toks) (fun b o hb e => eb b o hb e) f0 f1 f3 f4 f5⟩
  self := fun _ _ _ _ _ st h => wpAny_pyIter_listiter st h
theorem turn_tuple {P : Program} {w : World} {K : PySem.W.Frag} {tg : Expr} (a it : Addr) : Turn P w K tg (Itt K a) [it] it (fun i h => h.IsTupleIter it a i) where
  mem := by simp
  obj := fun i h st b hb => by
    have e : b = it := by simpa using hb
    subst e
    obtain ⟨o, e, c, d⟩ := st
    exact ⟨o, e, fun v z => by rw [d] at z; cases z⟩
  keep := fun i h h' st k => st.at fun o e => k it (by simp) o e
  item := by
    intro X hP hw hK hc i pins s σ H E I hf st hg
    subst hP hw hK
    obtain ⟨xs, x, hq, hx⟩ := hg
    obtain ⟨its, rv, p, hz⟩ := I.tuple hq
    obtain ⟨u, hu, ru⟩ := rv.get hx
    obtain ⟨f0, f1, f2, f3, f4, f5⟩ := hf it (by simp)
    refine wpAny_pyNext_tuple_item st (show s.heap.IsTuple a its.toArray from p) (x := u) (by simpa using hu) fun h' st' sb => ?_
    have I1 : Inv X pins σ H { s with heap := h' } := I.turned (t' := s.toks) (fun b o hb e => (sb.2 b hb).trans e) f0 f1 f3 f4 f5
    obtain ⟨o, e, c, d⟩ := id st'
    exact ⟨u, rfl, go_of (s := { s with heap := h' }) e c d (by decide) ⟨x, H, I1, ru, ⟨rfl, fun ys hy => by rw [I.tuple_inj hy hq]; exact hx⟩, st', fun b hb => (hf b hb).1⟩⟩
  done := by
    intro X hP hw hK hc i pins s σ H E I hf st hg
    subst hP hw hK
    obtain ⟨xs, hq, hx⟩ := hg
    obtain ⟨its, rv, p, hz⟩ := I.tuple hq
    obtain ⟨f0, f1, f2, f3, f4, f5⟩ := hf it (by simp)
    have hl := rv.length
    exact wpAny_pyNext_tuple_end (I.ok.hd hc) st (show s.heap.IsTuple a its.toArray from p) (by simp; omega) fun h' eb => ⟨rfl, I.turned (t' := s.toks) (fun b o hb e => eb b o hb e) f0 f1 f3 f4 f5⟩
  self := fun _ _ _ _ _ st h => wpAny_pyIter_tupleiter st h
theorem turn_range {P : Program} {w : World} {K : PySem.W.Frag} {tg : Expr} (it : Addr) (lo : Int) (n : Nat) : Turn P w K tg (Itr lo n) [it] it (fun i h => IsRangeIter h it (lo + (i : Nat) * 1) ((n : Int) - (i : Nat)) 1) where
  mem := by simp
  obj := fun i h st b hb => by
    have e : b = it := by simpa using hb
    subst e
    exact ⟨_, st, fun v z => by
      have z' : Data.fields _ = Data.cell v := z
      cases z'⟩
  keep := fun i h h' st k => k it (by simp) _ st
  item := by
    intro X hP hw hK hc i pins s σ H E I hf st hg
    subst hP hw hK
    obtain ⟨f0, f1, f2, f3, f4, f5⟩ := hf it (by simp)
    have W := Walks.range (prog := X.prog) (w := X.w) (I.ok.hd hc) it lo 1 n
    refine W.item i s _ _ hg st fun v h' tk hv st' kk => ?_
    obtain ⟨t, rfl⟩ := hv
    have I1 : Inv X pins σ H { s with heap := h', toks := tk } := I.turned (fun b o hb e => kk b o (by simpa using hb) e) f0 f1 f3 f4 f5
    refine ⟨_, rfl, go_of (s := { s with heap := h', toks := tk }) (n := "range_iterator") st' rfl rfl (by decide) ⟨.int (lo + i), H, I1, ⟨t, ?_⟩, ⟨rfl, rfl⟩, st', fun b hb => (hf b hb).1⟩⟩
    rw [Int.mul_one]
  done := by
    intro X hP hw hK hc i pins s σ H E I hf st hg
    subst hP hw hK
    obtain ⟨f0, f1, f2, f3, f4, f5⟩ := hf it (by simp)
    exact wpAny_pyNext_range_end (I.ok.hd hc) st (by have : n ≤ i := hg; omega) fun h' eb => ⟨rfl, I.turned (t' := s.toks) (fun b o hb e => eb b o hb e) f0 f1 f3 f4 f5⟩
  self := fun _ _ _ _ _ st h => wpAny_pyIter_rangeiter st h
end L2
namespace L2
open PySem PySem.Spec PyProof.Rows
section
variable {X : Cx} {tg : Expr}
def iList (K : PySem.W.Frag) (tl : TE) : TI := fun σ H R => tl σ H fun x H1 => ∃ a, x = .ref a ∧ (∃ xs, SqL K H1 a xs) ∧ R (Itl K a) H1
def iTup (K : PySem.W.Frag) (tl : TE) : TI := fun σ H R => tl σ H fun x H1 => ∃ a, x = .ref a ∧ (∃ xs, SqT K H1 a xs) ∧ R (Itt K a) H1
theorem pi_list {l : Expr} {tl : TE} (hl : PE X l tl) : PI X tg l (iList X.K tl) := by
  intro pins s σ H R I h
  refine thn (hl pins s σ H _ I h) fun v s1 ⟨x, H1, I1, r1, q1⟩ => ?_
  obtain ⟨a, e, ⟨xs, hq⟩, q⟩ := q1
  subst e
  cases r1
  obtain ⟨its, rv, p, hz⟩ := I1.list hq
  refine wpAny_pyIter_list p.isList ?_
  refine ⟨s1.heap.objs.size, [s1.heap.objs.size], _, _, H1, rfl, I1.kept (t' := s1.toks) fun b o e => Heap.get?_push_of_some _ e, turn_list a _, ⟨_, Heap.get?_push_size _ rfl, rfl, rfl⟩, fun b hb => ?_, q⟩
  have e : b = s1.heap.objs.size := by simpa using hb
  subst e
  exact I1.fpOk (Nat.le_refl _) (I1.hok.fresh (Nat.le_refl _))
theorem pi_tup {l : Expr} {tl : TE} (hl : PE X l tl) : PI X tg l (iTup X.K tl) := by
  intro pins s σ H R I h
  refine thn (hl pins s σ H _ I h) fun v s1 ⟨x, H1, I1, r1, q1⟩ => ?_
  obtain ⟨a, e, ⟨xs, hq⟩, q⟩ := q1
  subst e
  cases r1
  obtain ⟨its, rv, p, hz⟩ := I1.tuple hq
  refine wpAny_pyIter_tuple (show s1.heap.IsTuple a its.toArray from p) ?_
  refine ⟨s1.heap.objs.size, [s1.heap.objs.size], _, _, H1, rfl, I1.kept (t' := s1.toks) fun b o e => Heap.get?_push_of_some _ e, turn_tuple a _, ⟨_, Heap.get?_push_size _ rfl, rfl, rfl⟩, fun b hb => ?_, q⟩
  have e : b = s1.heap.objs.size := by simpa using hb
  subst e
  exact I1.fpOk (Nat.le_refl _) (I1.hok.fresh (Nat.le_refl _))
theorem range_it {pins : List (Addr × Obj)} {σ : St} {H : Hp} {s : Shared} {R : It → Hp → Prop} {E : Value → Shared → Prop} {lo hi : Int} {t u v : Tok} {tk : Nat} (I : Inv X pins σ H s) (h1 : -(2 ^ 62) ≤ lo) (h2 : lo < 2 ^ 62) (h3 : -(2 ^ 62) ≤ hi) (h4 : hi < 2 ^ 62)
    (q : R (Itr lo (hi - lo).toNat) H) : wpAny (model X.prog X.w) X.A (pyIter (.ref s.heap.objs.size)) (PIE X pins σ tg R) E { s with heap := s.heap.push { cls := .type "range", data := .fields #[.int lo t, .int hi u, .int 1 v] }, toks := tk } := by
  refine wpAny_pyIter_range (IsRange.new ..) (small_one h1 h2 h3 h4) ?_
  have I1 : Inv X pins σ H { s with heap := s.heap.push { cls := .type "range", data := .fields #[.int lo t, .int hi u, .int 1 v] }, toks := tk } := I.kept fun b o e => Heap.get?_push_of_some _ e
  refine ⟨(s.heap.push { cls := .type "range", data := .fields #[.int lo t, .int hi u, .int 1 v] }).objs.size, [(s.heap.push { cls := .type "range", data := .fields #[.int lo t, .int hi u, .int 1 v] }).objs.size], _, _, H, rfl,
    I1.kept (t' := tk) fun b o e => Heap.get?_push_of_some _ e, turn_range _ lo (hi - lo).toNat, ?_, fun b hb => ?_, q⟩
  · have e1 : lo + ((0 : Nat) : Int) * 1 = lo := by simp
    have e2 : (((hi - lo).toNat : Nat) : Int) - ((0 : Nat) : Int) = Builtin.Range.rangeSize lo hi 1 := by rw [rangeSize_one]; split <;> omega
    show IsRangeIter _ _ (lo + ((0 : Nat) : Int) * 1) ((((hi - lo).toNat : Nat) : Int) - ((0 : Nat) : Int)) 1
    rw [e1, e2]
    exact Heap.get?_push_size _ rfl
  · have e : b = (s.heap.push { cls := .type "range", data := .fields #[.int lo t, .int hi u, .int 1 v] }).objs.size := by simpa using hb
    subst e
    exact I1.fpOk (Nat.le_refl _) (I1.hok.fresh (Nat.le_refl _))
def iRng1 (ta : TA) : TI := fun σ H R => ta σ H fun vs H1 => ∃ j : Int, vs = [.int j] ∧ -(2 ^ 62) ≤ j ∧ j < 2 ^ 62 ∧ R (Itr 0 j.toNat) H1
theorem pi_range1 {a : Expr} {ta : TA} {p pos : Pos} (hg : Gl X "range") (hm : X.mg "range" = none) (ha : PA X [a] ta) (hs : starEach [a] X.env = [(false, eval a X.env)] := by rfl) : PI X tg (.Call (.Name "range" p) [a] [] pos) (iRng1 ta) := by
  intro pins s σ H R I h
  refine Call_ (ld_blt I hg hm boot_range (PyProof.Rows.callWith_type1 (thn (ha pos pins s σ H _ I h) fun us s1 ⟨vs, H1, I1, r1, q1⟩ => ?_) hs rfl))
  obtain ⟨j, e, q1, q2, q⟩ := q1
  subst e
  cases r1 with
  | cons r rr =>
    cases rr
    obtain ⟨t, rfl⟩ := r
    exact call_range_1 (range_it I1 (by omega) (by omega) q1 q2 (by simpa using q))
def tFor (wi : TI) (g : TG) (tb : TS) : TS := fun D σ H => wi σ H fun J H1 => ∃ W : Nat → Nat → St → Hp → Prop, (∃ m, W 0 m σ H1) ∧ ∀ i m σ H, W i m σ H →
  (J.stop i H ∧ D.nx σ H) ∨ (J.go i H ∧ ∃ N : St → Hp → Prop, (∀ σ' H', N σ' H' → ∃ m', m' < m ∧ W (i + 1) m' σ' H') ∧ ∀ x H', J.yld i H x H' → g x σ H' fun σ2 H2 => tb { D with nx := N, ct := N, bk := D.nx } σ2 H2)
def pinsAt (fp : List Addr) (h : Heap) : List (Addr × Obj) := fp.filterMap fun b => (h.get? b).map fun o => (b, o)
theorem mem_pinsAt {fp : List Addr} {h : Heap} {b : Addr} {o : Obj} (hb : b ∈ fp) (e : h.get? b = some o) : (b, o) ∈ pinsAt fp h := List.mem_filterMap.mpr ⟨b, hb, by rw [e]; rfl⟩
theorem of_pinsAt {fp : List Addr} {h : Heap} {p : Addr × Obj} (hp : p ∈ pinsAt fp h) : p.1 ∈ fp ∧ h.get? p.1 = some p.2 := by
  obtain ⟨b, hb, e⟩ := List.mem_filterMap.mp hp
  cases q : h.get? b with
  | none => rw [q] at e; cases e
  | some o =>
    rw [q] at e
    have e' : (b, o) = p := Option.some.inj e
    subst e'
    exact ⟨hb, q⟩
theorem Inv.pinned {pins : List (Addr × Obj)} {σ : St} {H : Hp} {s : Shared} {fp : List Addr} (I : Inv X pins σ H s) (hf : ∀ b ∈ fp, FpOk X pins H b) (ho : ∀ b ∈ fp, ∃ o, s.heap.get? b = some o ∧ ∀ v, o.data ≠ .cell v) : Inv X (pins ++ pinsAt fp s.heap) σ H s :=
  I.pins_of fun p hp => (List.mem_append.mp hp).elim (fun z => I.pin p (List.mem_append_right _ z)) fun z => by
    obtain ⟨hb, e⟩ := of_pinsAt z
    obtain ⟨f0, f1, f2, _⟩ := hf p.1 hb
    obtain ⟨o, e', d⟩ := ho p.1 hb
    rw [e] at e'; cases e'
    exact ⟨e, f0, f1, f2, d⟩
theorem Inv.unpinned {pins pl : List (Addr × Obj)} {σ : St} {H : Hp} {s : Shared} (I : Inv X (pins ++ pl) σ H s) : Inv X pins σ H s := I.pins_of fun p hp => I.pin p (List.mem_append_right _ (List.mem_append_left _ hp))
theorem ps_for {iter : Expr} {body : List Stmt} {wi : TI} {g : TG} {tb : TS} {pos : Pos} (hp : PassesOwn (model X.prog X.w) X.A X.env X.xe) (hc : X.calm = true) (hi : PI X tg iter wi) (hg : PG X tg g) (hb : PSs X body tb)
    (hs : ∀ x, foldedSetIterable iter X.env x = pure x := by intro _; rfl) : PS X (.For tg iter body [] pos) (tFor wi g tb) := by
  intro pins s σ H D I h
  refine wpAny_For (thn (hi pins s σ H _ I h) fun v s1 h1 => thn h1 fun itv s2 h2 => ?_) hs
  obtain ⟨it, fp, tn, J, H2, e, I2, T, st2, f2, W, ⟨m0, w0⟩, turn⟩ := h2
  subst e
  have stat : ∀ {H' : Hp}, (∀ b ∈ fp, H' b = none) → ∀ b ∈ fp, FpOk X pins H' b := fun hn b hb => ⟨hn b hb, (f2 b hb).2⟩
  refine codeAny_forLoop_any (fun n s' => ∃ i σ' H', Inv X pins σ' H' s' ∧ tn i s'.heap ∧ (∀ b ∈ fp, H' b = none) ∧ W i n σ' H') ?_ m0 ⟨0, σ, H2, I2, st2, fun b hb => (f2 b hb).1, w0⟩
  rintro n s3 ⟨i, σ3, H3, I3, st3, fr3, w3⟩
  rcases turn i n σ3 H3 w3 with ⟨stop, qn⟩ | ⟨go, N, hN, step⟩
  · refine wpAny_passesOwn hp (thn (T.done X rfl rfl rfl hc i pins s3 σ3 H3 X.xe I3 (stat fr3) st3 stop) fun r s4 ⟨hr, I4⟩ => ?_)
    subst hr
    exact wpAny_execs_nil ⟨σ3, H3, I4, qn⟩
  · refine wpAny_passesOwn hp (thn (T.item X rfl rfl rfl hc i pins s3 σ3 H3 X.xe I3 (stat fr3) st3 go) fun r s4 ⟨u, hr, h4⟩ => ?_)
    subst hr
    refine wpAny_passesOwn hp (thn h4 fun _ s5 ⟨x, H5, I5, r5, y5, st5, fr5⟩ => ?_)
    have I5' := I5.pinned (stat fr5) (T.obj _ _ st5)
    refine wpAny_passesOwn hp (thn (hg _ s5 σ3 H5 x u _ I5' r5 (step x H5 y5)) fun _ s6 ⟨σ6, H6, I6, q6⟩ => ?_)
    refine wpAny_passesOwn hp (thn (hb _ s6 σ6 H6 _ I6 q6) fun f s7 q7 => ?_)
    have again : ∀ {σ7 : St} {H7 : Hp}, Inv X (pins ++ pinsAt fp s5.heap) σ7 H7 s7 → N σ7 H7 → ∃ m, m < n ∧ ∃ i σ' H', Inv X pins σ' H' s7 ∧ tn i s7.heap ∧ (∀ b ∈ fp, H' b = none) ∧ W i m σ' H' := fun {σ7 H7} I7 n7 => by
      obtain ⟨m', hm, w7⟩ := hN σ7 H7 n7
      refine ⟨m', hm, i + 1, σ7, H7, I7.unpinned, T.keep _ _ _ st5 fun b hb o e => (I7.pin (b, o) (List.mem_append_right _ (List.mem_append_right _ (mem_pinsAt hb e)))).1, fun b hb => ?_, w7⟩
      obtain ⟨o, e, d⟩ := T.obj _ _ st5 b hb
      exact (I7.pin (b, o) (List.mem_append_right _ (List.mem_append_right _ (mem_pinsAt hb e)))).2.1
    cases f with
    | next => obtain ⟨σ7, H7, I7, n7⟩ := q7; exact again I7 n7
    | cont => obtain ⟨σ7, H7, I7, n7⟩ := q7; exact again I7 n7
    | brk => obtain ⟨σ7, H7, I7, q7⟩ := q7; exact ⟨σ7, H7, I7.unpinned, q7⟩
    | ret v => obtain ⟨x7, σ7, H7, I7, r7, q7⟩ := q7; exact ⟨x7, σ7, H7, I7.unpinned, r7, q7⟩
end
end L2
namespace L2
open PySem PySem.Spec PyProof.Rows
abbrev R2 := V → V → Hp → VK → Prop
def OpR (X : Cx) (f : Value → Value → Sem Value) (r : R2) : Prop :=
  ∀ (pins : List (Addr × Obj)) (s : Shared) (σ : St) (H : Hp) (x y : V) (v u : Value) (Q : VK), Inv X pins σ H s → RelV x v → RelV y u → r x y H Q →
    wpAny (model X.prog X.w) X.A (f v u) (EP X pins σ Q) X.xe s
def UnR (X : Cx) (f : Value → Sem Value) (r : V → Hp → VK → Prop) : Prop :=
  ∀ (pins : List (Addr × Obj)) (s : Shared) (σ : St) (H : Hp) (x : V) (v : Value) (Q : VK), Inv X pins σ H s → RelV x v → r x H Q →
    wpAny (model X.prog X.w) X.A (f v) (EP X pins σ Q) X.xe s
def CallR (X : Cx) (f : Value) (r : List V → Hp → VK → Prop) : Prop :=
  ∀ (pins : List (Addr × Obj)) (s : Shared) (σ : St) (H : Hp) (xs : List V) (us : List Value) (Q : VK), Inv X pins σ H s → Vals xs us → r xs H Q →
    wpAny (model X.prog X.w) X.A (call f us) (EP X pins σ Q) X.xe s
def TruR (X : Cx) (r : V → Hp → (Bool → Hp → Prop) → Prop) : Prop :=
  ∀ (pins : List (Addr × Obj)) (s : Shared) (σ : St) (H : Hp) (x : V) (v : Value) (Q : Bool → Hp → Prop), Inv X pins σ H s → RelV x v → r x H Q →
    wpAny (model X.prog X.w) X.A (truthy v) (TP X pins σ Q) X.xe s
def tOp (r : R2) (ta tb : TE) : TE := fun σ H Q => ta σ H fun x H1 => tb σ H1 fun y H2 => r x y H2 Q
def rI (C : Int → Int → Prop) (g : Int → Int → V) : R2 := fun x y H Q => ∃ i j, x = .int i ∧ y = .int j ∧ C i j ∧ Q (g i j) H
def rI0 (g : Int → Int → V) : R2 := fun x y H Q => ∃ i j, x = .int i ∧ y = .int j ∧ Q (g i j) H
def rU (g : Int → V) : V → Hp → VK → Prop := fun x H Q => ∃ i, x = .int i ∧ Q (g i) H
section
variable {X : Cx} {a b c : Expr} {ta tb tc : TE} {pos : Pos}
theorem binT (ha : PE X a ta) (hb : PE X b tb) {pins : List (Addr × Obj)} {s : Shared} {σ : St} {H : Hp} {R : V → V → Hp → Prop} (I : Inv X pins σ H s)
    (h : ta σ H fun x H1 => tb σ H1 fun y H2 => R x y H2) {Q : Value → Shared → Prop} {f : Value → Value → Sem Value}
    (hf : ∀ v u s2 x y H2, Inv X pins σ H2 s2 → RelV x v → RelV y u → R x y H2 → wpAny (model X.prog X.w) X.A (f v u) Q X.xe s2) :
    wpAny (model X.prog X.w) X.A (eval a X.env) (fun v s₁ => wpAny (model X.prog X.w) X.A (eval b X.env) (fun u s₂ => wpAny (model X.prog X.w) X.A (f v u) Q X.xe s₂) X.xe s₁) X.xe s := by
  refine thn (ha pins s σ H _ I h) fun v s1 ⟨x, H1, I1, r1, q1⟩ => ?_
  refine thn (hb pins s1 σ H1 _ I1 q1) fun u s2 ⟨y, H2, I2, r2, q2⟩ => ?_
  exact hf v u s2 x y H2 I2 r1 r2 q2
theorem pe_op {op : Operator} {r : R2} (ho : OpR X (binaryOp op) r) (ha : PE X a ta) (hb : PE X b tb) : PE X (.BinOp a op b pos) (tOp r ta tb) := by
  intro pins s σ H Q I h
  exact wpAny_BinOp (binT ha hb I h fun v u s2 x y H2 I2 rx ry q => ho pins s2 σ H2 x y v u Q I2 rx ry q)
theorem opI {f : Value → Value → Sem Value} {C : Int → Int → Prop} {g : Int → Int → Int}
    (rule : ∀ (i j : Int) (t u : Tok) (s : Shared) (Q : Value → Shared → Prop) (E : Value → Shared → Prop), C i j → Q (.int (g i j) s.toks) { s with toks := s.toks + 1 } → wpAny (model X.prog X.w) X.A (f (.int i t) (.int j u)) Q E s) :
    OpR X f (rI C fun i j => .int (g i j)) := by
  intro pins s σ H x y v u Q I rx ry h
  obtain ⟨i, j, rfl, rfl, hc, q⟩ := h
  obtain ⟨t, rfl⟩ := rx
  obtain ⟨t', rfl⟩ := ry
  exact rule i j t t' s _ _ hc ⟨.int (g i j), H, I.tok _, ⟨_, rfl⟩, q⟩
theorem opI0 {f : Value → Value → Sem Value} {g : Int → Int → Int}
    (rule : ∀ (i j : Int) (t u : Tok) (s : Shared) (Q : Value → Shared → Prop) (E : Value → Shared → Prop), Q (.int (g i j) s.toks) { s with toks := s.toks + 1 } → wpAny (model X.prog X.w) X.A (f (.int i t) (.int j u)) Q E s) :
    OpR X f (rI0 fun i j => .int (g i j)) := by
  intro pins s σ H x y v u Q I rx ry h
  obtain ⟨i, j, rfl, rfl, q⟩ := h
  obtain ⟨t, rfl⟩ := rx
  obtain ⟨t', rfl⟩ := ry
  exact rule i j t t' s _ _ ⟨.int (g i j), H, I.tok _, ⟨_, rfl⟩, q⟩
theorem opB0 {f : Value → Value → Sem Value} {g : Int → Int → Bool}
    (rule : ∀ (i j : Int) (t u : Tok) (s : Shared) (Q : Value → Shared → Prop) (E : Value → Shared → Prop), Q (.bool (g i j)) s → wpAny (model X.prog X.w) X.A (f (.int i t) (.int j u)) Q E s) :
    OpR X f (rI0 fun i j => .bl (g i j)) := by
  intro pins s σ H x y v u Q I rx ry h
  obtain ⟨i, j, rfl, rfl, q⟩ := h
  obtain ⟨t, rfl⟩ := rx
  obtain ⟨t', rfl⟩ := ry
  exact rule i j t t' s _ _ ⟨.bl (g i j), H, I, rfl, q⟩
def CDiv (i j : Int) : Prop := 0 < j ∧ j < 1073741824
def CPow (i j : Int) : Prop := 0 ≤ j ∧ j ≤ 1000000 ∧ i.natAbs < 2 ^ 64
def CMul (i j : Int) : Prop := (-(2 ^ 64) < i ∧ i < 2 ^ 64) ∨ (-(2 ^ 64) < j ∧ j < 2 ^ 64)
theorem CMul.ok {i j : Int} (h : CMul i j) : IntMulOk i j := by
  rcases h with ⟨h1, h2⟩ | ⟨h1, h2⟩
  · exact .of_left (intBits_le_64 h1 h2)
  · exact .of_right (intBits_le_64 h1 h2)
theorem op_add : OpR X (binaryOp .Add) (rI0 fun i j => .int (i + j)) := opI0 fun _ _ _ _ _ _ _ q => add_int q
theorem op_mul : OpR X (binaryOp .Mult) (rI CMul fun i j => .int (i * j)) := opI fun _ _ _ _ _ _ _ hc q => mul_int q hc.ok
theorem op_fdiv : OpR X (binaryOp .FloorDiv) (rI CDiv fun i j => .int (i / j)) := opI fun i j _ _ _ _ _ hc q => by
  have h1 : (0 : Int) < j := hc.1
  have h2 : j < 1073741824 := hc.2
  exact floordiv_int (by omega) (by rw [Int.fdiv_eq_ediv_of_nonneg i (by omega)]; exact q) (.inl (PyProof.noPylong_small (by omega)))
theorem op_mod : OpR X (binaryOp .Mod) (rI (fun _ j => 0 < j) fun i j => .int (i % j)) := opI fun i j _ _ _ _ _ hc q => by
  have h1 : (0 : Int) < j := hc
  exact mod_int' (by omega) (by rw [Int.fmod_eq_emod_of_nonneg i (by omega)]; exact q)
theorem op_pow : OpR X (binaryOp .Pow) (rI CPow fun i j => .int (i ^ j.toNat)) := opI fun _ _ _ _ _ _ _ hc q => pow_int_small hc.1 hc.2.1 hc.2.2 q
theorem unI {f : Value → Sem Value} {g : Int → Int}
    (rule : ∀ (i : Int) (t : Tok) (s : Shared) (Q : Value → Shared → Prop) (E : Value → Shared → Prop), Q (.int (g i) s.toks) { s with toks := s.toks + 1 } → wpAny (model X.prog X.w) X.A (f (.int i t)) Q E s) :
    UnR X f (rU fun i => .int (g i)) := by
  intro pins s σ H x v Q I rx h
  obtain ⟨i, rfl, q⟩ := h
  obtain ⟨t, rfl⟩ := rx
  exact rule i t s _ _ ⟨.int (g i), H, I.tok _, ⟨_, rfl⟩, q⟩
theorem op_add_ib : OpR X (binaryOp .Add) (fun x y H Q => ∃ i k, x = .int i ∧ y = .bl k ∧ Q (.int (i + b2i k)) H) := by
  intro pins s σ H x y v u Q I rx ry h
  obtain ⟨i, k, rfl, rfl, q⟩ := h
  obtain ⟨t, rfl⟩ := rx
  cases ry
  exact add_int_bool ⟨.int (i + b2i k), H, I.tok _, ⟨_, rfl⟩, q⟩
end
def scal : V → V → Bool
  | .non, .non => true | .non, .int _ => true | .int _, .non => true | .non, .bl _ => true | .bl _, .non => true | .non, .str _ => true | .str _, .non => true
  | .int _, .int _ => true | .bl _, .bl _ => true | .str _, .str _ => true | .byt _, .byt _ => true
  | .int _, .str _ => true | .str _, .int _ => true | .bl _, .str _ => true | .str _, .bl _ => true
  | _, _ => false
def rEq : R2 := fun x y H Q => scal x y = true ∧ Q (.bl (decide (x = y))) H
def rNe : R2 := fun x y H Q => scal x y = true ∧ Q (.bl (!decide (x = y))) H
theorem dec_int {i j : Int} : decide (V.int i = V.int j) = (i == j) := by
  rw [Bool.eq_iff_iff]
  simp
theorem dec_bl {i j : Bool} : decide (V.bl i = V.bl j) = (i == j) := by
  rw [Bool.eq_iff_iff]
  simp
theorem dec_str {i j : Str} : decide (V.str i = V.str j) = (i == j) := by
  rw [Bool.eq_iff_iff]
  simp
theorem dec_byt {i j : Array UInt8} : decide (V.byt i = V.byt j) = (i.toList == j.toList) := by
  rw [Bool.eq_iff_iff]
  cases i
  cases j
  simp
section
variable {X : Cx} {a b c : Expr} {ta tb tc : TE} {pos : Pos}
theorem fin_bl {pins : List (Addr × Obj)} {σ : St} {H : Hp} {s : Shared} {Q : VK} {k k' : Bool} (I : Inv X pins σ H s) (q : Q (.bl k) H) (e : k = k') : EP X pins σ Q (.bool k') s := by
  subst e
  exact ⟨.bl k, H, I, rfl, q⟩
theorem op_eq : OpR X (compareOp .Eq) rEq := by
  intro pins s σ H x y v u Q I rx ry h
  obtain ⟨hs, q⟩ := h
  cases x with
  | non =>
    cases rx
    cases y with
    | non => cases ry; exact PySem.EqNone.eq_none_none (fin_bl I q (by simp))
    | bl j => cases ry; exact PySem.EqNone.eq_none_bool (fin_bl I q (by simp))
    | int j => obtain ⟨t', rfl⟩ := ry; exact PySem.EqNone.eq_none_int (fin_bl I q (by simp))
    | str j => obtain ⟨t', rfl⟩ := ry; exact PySem.EqNone.eq_none_str (fin_bl I q (by simp))
    | _ => exact absurd (show false = true from hs) Bool.false_ne_true
  | bl i =>
    cases rx
    cases y with
    | non => cases ry; exact PySem.EqNone.eq_bool_none (fin_bl I q (by simp))
    | bl j => cases ry; exact eq_bool (fin_bl I q dec_bl)
    | str j => obtain ⟨t', rfl⟩ := ry; exact PySem.EqMixed.eq_bool_str (fin_bl I q (by simp))
    | _ => exact absurd (show false = true from hs) Bool.false_ne_true
  | int i =>
    obtain ⟨t, rfl⟩ := rx
    cases y with
    | non => cases ry; exact PySem.EqNone.eq_int_none (fin_bl I q (by simp))
    | int j => obtain ⟨t', rfl⟩ := ry; exact eq_int (fin_bl I q dec_int)
    | str j => obtain ⟨t', rfl⟩ := ry; exact PySem.EqMixed.eq_int_str (fin_bl I q (by simp))
    | _ => exact absurd (show false = true from hs) Bool.false_ne_true
  | str i =>
    obtain ⟨t, rfl⟩ := rx
    cases y with
    | non => cases ry; exact PySem.EqNone.eq_str_none (fin_bl I q (by simp))
    | bl j => cases ry; exact PySem.EqMixed.eq_str_bool (fin_bl I q (by simp))
    | int j => obtain ⟨t', rfl⟩ := ry; exact PySem.EqMixed.eq_str_int (fin_bl I q (by simp))
    | str j => obtain ⟨t', rfl⟩ := ry; exact eq_str (fin_bl I q dec_str)
    | _ => exact absurd (show false = true from hs) Bool.false_ne_true
  | byt i =>
    obtain ⟨t, rfl⟩ := rx
    cases y with
    | byt j => obtain ⟨t', rfl⟩ := ry; exact PySem.W.eq_bytes (fin_bl I q dec_byt)
    | _ => exact absurd (show false = true from hs) Bool.false_ne_true
  | _ => cases y <;> exact absurd (show false = true from hs) Bool.false_ne_true
theorem op_ne : OpR X (compareOp .NotEq) rNe := by
  intro pins s σ H x y v u Q I rx ry h
  obtain ⟨hs, q⟩ := h
  cases x with
  | non =>
    cases rx
    cases y with
    | non => cases ry; exact PySem.EqNone.ne_none_none (fin_bl I q (by simp))
    | bl j => cases ry; exact PySem.EqNone.ne_none_bool (fin_bl I q (by simp))
    | int j => obtain ⟨t', rfl⟩ := ry; exact PySem.EqNone.ne_none_int (fin_bl I q (by simp))
    | str j => obtain ⟨t', rfl⟩ := ry; exact PySem.EqNone.ne_none_str (fin_bl I q (by simp))
    | _ => exact absurd (show false = true from hs) Bool.false_ne_true
  | bl i =>
    cases rx
    cases y with
    | non => cases ry; exact PySem.EqNone.ne_bool_none (fin_bl I q (by simp))
    | bl j => cases ry; exact ne_bool (fin_bl I q (congrArg not dec_bl))
    | str j => obtain ⟨t', rfl⟩ := ry; exact PySem.EqMixed.ne_bool_str (fin_bl I q (by simp))
    | _ => exact absurd (show false = true from hs) Bool.false_ne_true
  | int i =>
    obtain ⟨t, rfl⟩ := rx
    cases y with
    | non => cases ry; exact PySem.EqNone.ne_int_none (fin_bl I q (by simp))
    | int j => obtain ⟨t', rfl⟩ := ry; exact ne_int (fin_bl I q (congrArg not dec_int))
    | str j => obtain ⟨t', rfl⟩ := ry; exact PySem.EqMixed.ne_int_str (fin_bl I q (by simp))
    | _ => exact absurd (show false = true from hs) Bool.false_ne_true
  | str i =>
    obtain ⟨t, rfl⟩ := rx
    cases y with
    | non => cases ry; exact PySem.EqNone.ne_str_none (fin_bl I q (by simp))
    | bl j => cases ry; exact PySem.EqMixed.ne_str_bool (fin_bl I q (by simp))
    | int j => obtain ⟨t', rfl⟩ := ry; exact PySem.EqMixed.ne_str_int (fin_bl I q (by simp))
    | str j => obtain ⟨t', rfl⟩ := ry; exact ne_str (fin_bl I q (congrArg not dec_str))
    | _ => exact absurd (show false = true from hs) Bool.false_ne_true
  | byt i =>
    obtain ⟨t, rfl⟩ := rx
    cases y with
    | byt j => obtain ⟨t', rfl⟩ := ry; exact PySem.W.ne_bytes (fin_bl I q (congrArg not dec_byt))
    | _ => exact absurd (show false = true from hs) Bool.false_ne_true
  | _ => cases y <;> exact absurd (show false = true from hs) Bool.false_ne_true
theorem op_le : OpR X (compareOp .LtE) (rI0 fun i j => .bl (decide (i ≤ j))) := opB0 fun _ _ _ _ _ _ _ q => le_int q
theorem op_gt : OpR X (compareOp .Gt) (rI0 fun i j => .bl (decide (j < i))) := opB0 fun _ _ _ _ _ _ _ q => gt_int q
theorem op_ge : OpR X (compareOp .GtE) (rI0 fun i j => .bl (decide (j ≤ i))) := opB0 fun _ _ _ _ _ _ _ q => ge_int q
theorem op_notin_str : OpR X (compareOp .NotIn) (fun x y H Q => ∃ i j, x = .str i ∧ y = .str j ∧ Q (.bl (!(!(Builtin.Str.occurrences j i 0 j.length 1).isEmpty))) H) := by
  intro pins s σ H x y v u Q I rx ry h
  obtain ⟨i, j, rfl, rfl, q⟩ := h
  obtain ⟨t, rfl⟩ := rx
  obtain ⟨t', rfl⟩ := ry
  exact notIn_str (fin_bl I q rfl)
theorem nomark (b : Expr) {op : CmpOp} (h : op ≠ .In := by decide) (h2 : op ≠ .NotIn := by decide) : behindInMarks op b = false := by
  have e1 : (op == CmpOp.In) = false := by cases op <;> first | rfl | exact absurd rfl h
  have e2 : (op == CmpOp.NotIn) = false := by cases op <;> first | rfl | exact absurd rfl h2
  cases b <;> simp [behindInMarks, e1, e2]
theorem pe_cmpR {op : CmpOp} {r : R2} (ho : OpR X (compareOp op) r) (ha : PE X a ta) (hb : PE X b tb) (hm : behindInMarks op b = false) : PE X (.Compare a [op] [b] pos) (tOp r ta tb) := by
  intro pins s σ H Q I h
  exact wpAny_Compare1 (binT ha hb I h fun v u s2 x y H2 I2 rx ry q => ho pins s2 σ H2 x y v u Q I2 rx ry q) hm
def tTest (t : TE) : TT := fun σ H Q => t σ H fun x H' => ∃ k, x = .bl k ∧ Q k H'
theorem pt_cmpR {op : CmpOp} {r : R2} (ho : OpR X (compareOp op) r) (ha : PE X a ta) (hb : PE X b tb) (hm : behindInMarks op b = false) : PT X (.Compare a [op] [b] pos) (tTest (tOp r ta tb)) := by
  intro pins s σ H Q I h
  refine wpAny_isTrue_Compare1 (thn (ha pins s σ H _ I h) fun v s1 ⟨x, H1, I1, r1, q1⟩ => thn (hb pins s1 σ H1 _ I1 q1) fun u s2 ⟨y, H2, I2, r2, q2⟩ =>
    thn (ho pins s2 σ H2 x y v u _ I2 r1 r2 q2) fun c s3 ⟨z, H3, I3, r3, k, e, q3⟩ => ?_) hm
  subst e
  cases r3
  exact wpAny_truthy_bool ⟨H3, I3, q3⟩
def tChain (r r' : R2) (ta tb tc : TE) : TE := fun σ H Q => ta σ H fun x H1 => tb σ H1 fun y H2 => r x y H2 fun z H3 => ∃ k, z = .bl k ∧
  (if k = true then tc σ H3 fun w' H4 => r' y w' H4 Q else Q (.bl false) H3)
theorem pe_chain {op op' : CmpOp} {r r' : R2} (ho : OpR X (compareOp op) r) (ho' : OpR X (compareOp op') r') (ha : PE X a ta) (hb : PE X b tb) (hc : PE X c tc)
    (hm : lastMarks [op, op'] [b, c] = false := by with_unfolding_all rfl) : PE X (.Compare a [op, op'] [b, c] pos) (tChain r r' ta tb tc) := by
  intro pins s σ H Q I h
  refine Compare_chain (thn (ha pins s σ H _ I h) fun v s1 ⟨x, H1, I1, r1, q1⟩ => chain_link (thn (hb pins s1 σ H1 _ I1 q1) fun u s2 ⟨y, H2, I2, r2, q2⟩ =>
    thn (ho pins s2 σ H2 x y v u _ I2 r1 r2 q2) fun d s3 ⟨z, H3, I3, r3, k, e, q3⟩ => ?_)) hm
  subst e
  cases r3
  refine wpAny_truthy_bool ?_
  cases k with
  | false => exact ite_ff ⟨.bl false, H3, I3, rfl, q3⟩
  | true => exact ite_tt (chain_last (thn (hc pins s3 σ H3 _ I3 q3) fun w' s4 ⟨z', H4, I4, r4, q4⟩ => ho' pins s4 σ H4 y z' u w' Q I4 r2 r4 q4))
theorem pt_chain {op op' : CmpOp} {r r' : R2} (ho : OpR X (compareOp op) r) (ho' : OpR X (compareOp op') r') (ha : PE X a ta) (hb : PE X b tb) (hc : PE X c tc)
    (hm : lastMarks [op, op'] [b, c] = false := by with_unfolding_all rfl) : PT X (.Compare a [op, op'] [b, c] pos) (tTest (tChain r r' ta tb tc)) := by
  intro pins s σ H Q I h
  refine isTrue_chain (thn (ha pins s σ H _ I h) fun v s1 ⟨x, H1, I1, r1, q1⟩ => test_link (thn (hb pins s1 σ H1 _ I1 q1) fun u s2 ⟨y, H2, I2, r2, q2⟩ =>
    thn (ho pins s2 σ H2 x y v u _ I2 r1 r2 q2) fun d s3 ⟨z, H3, I3, r3, k, e, q3⟩ => ?_)) hm
  subst e
  cases r3
  refine wpAny_truthy_bool ?_
  cases k with
  | false =>
    obtain ⟨k', e', q'⟩ := q3
    cases e'
    exact ite_ff ⟨H3, I3, q'⟩
  | true =>
    refine ite_tt (test_last (thn (hc pins s3 σ H3 _ I3 q3) fun w' s4 ⟨z', H4, I4, r4, q4⟩ => thn (ho' pins s4 σ H4 y z' u w' _ I4 r2 r4 q4) fun d' s5 ⟨z2, H5, I5, r5, k2, e2, q5⟩ => ?_))
    subst e2
    cases r5
    exact wpAny_truthy_bool ⟨H5, I5, q5⟩
def TruV (K : PySem.W.Frag) (x : V) (H : Hp) (k : Bool) : Prop :=
  match x with
  | .non => k = false
  | .bl b => k = b
  | .int i => k = (i != 0)
  | .str y => y.length ≤ sizeLine ∧ k = ((y.length : Int) != 0)
  | .byt y => y.size ≤ sizeLine ∧ k = ((y.size : Int) != 0)
  | .ref p => (∃ xs, SqL K H p xs ∧ k = !xs.isEmpty) ∨ (∃ xs, SqT K H p xs ∧ k = !xs.isEmpty) ∨ ∃ kvs, H p = some (.dK kvs) ∧ k = !kvs.isEmpty
  | _ => False
theorem isEmpty_kv {κ : Type} {kvs : List (κ × V)} {vs : List (κ × Value)} (r : KV kvs vs) : (!vs.isEmpty) = !kvs.isEmpty := by
  cases r <;> rfl
theorem isEmpty_of {xs : List V} {its : List Value} (r : Vals xs its) : (!its.toArray.isEmpty) = !xs.isEmpty := by
  cases r <;> simp
theorem line63 : (sizeLine : Nat) < 2 ^ 63 := by rw [sizeLine_eq]; decide
theorem tru_ok : TruR X (fun x H Q => ∃ k, TruV X.K x H k ∧ Q k H) := by
  intro pins s σ H x v Q I rx h
  obtain ⟨k, e, q⟩ := h
  have hl := line63
  have hs : sizeLine = 16777216 := sizeLine_eq
  cases x with
  | non =>
    cases rx
    have e' : k = false := e
    subst e'
    exact truthy_none ⟨H, I, q⟩
  | bl b =>
    cases rx
    have e' : k = b := e
    subst e'
    exact wpAny_truthy_bool ⟨H, I, q⟩
  | int i =>
    obtain ⟨t, rfl⟩ := rx
    have e' : k = (i != 0) := e
    subst e'
    exact PySem.P.truthy_int ⟨H, I, q⟩
  | str y =>
    obtain ⟨t, rfl⟩ := rx
    obtain ⟨hy, e'⟩ : y.length ≤ sizeLine ∧ k = ((y.length : Int) != 0) := e
    subst e'
    exact PySem.P.truthy_str (by omega) ⟨H, I.tok _, q⟩
  | byt y =>
    obtain ⟨t, rfl⟩ := rx
    obtain ⟨hy, e'⟩ : y.size ≤ sizeLine ∧ k = ((y.size : Int) != 0) := e
    subst e'
    exact PySem.W.truthy_bytes (by omega) ⟨H, I.tok _, q⟩
  | ref p =>
    cases rx
    have e' : (∃ xs, SqL X.K H p xs ∧ k = !xs.isEmpty) ∨ (∃ xs, SqT X.K H p xs ∧ k = !xs.isEmpty) ∨ ∃ kvs, H p = some (.dK kvs) ∧ k = !kvs.isEmpty := e
    rcases e' with ⟨xs, hx, e'⟩ | ⟨xs, hx, e'⟩ | ⟨kvs, hx, e'⟩
    · subst e'
      obtain ⟨its, r, pl, hz⟩ := I.list hx
      have hlen := r.length
      exact wpAny_truthy_list pl.isList (by simp only [List.size_toArray]; omega) ⟨H, I.tok _, by rw [isEmpty_of r]; exact q⟩
    · subst e'
      obtain ⟨its, r, pl, hz⟩ := I.tuple hx
      have hlen := r.length
      exact truthy_tuple pl (by simp only [List.size_toArray]; omega) ⟨H, I.tok _, by rw [isEmpty_of r]; exact q⟩
    · subst e'
      obtain ⟨hz, hS, vs, r, m⟩ : kvs.length ≤ sizeLine ∧ (p == sysModules) = false ∧ ∃ vs, KV kvs vs ∧ s.heap.DictOf (mixKind X.prog X.w) p vs := I.hok p _ hx
      have hlen : kvs.length = vs.length := Paired.length r
      exact wpAny_truthy_dict hS m (by omega) ⟨H, I.tok _, by rw [isEmpty_kv r]; exact q⟩
  | _ => exact (show False from e).elim
theorem pt_truth (ha : PE X a ta) (he : ∀ whole, isTrue a X.env whole = (do let v ← whole; standAt a.pos; holding [v] (truthy v))) :
    PT X a (fun σ H Q => ta σ H fun x H' => ∃ k, TruV X.K x H' k ∧ Q k H') := by
  intro pins s σ H Q I h
  exact isTrue_plain (thn (ha pins s σ H _ I h) fun v s1 ⟨x, H1, I1, r1, q1⟩ => tru_ok pins s1 σ H1 x v Q I1 r1 q1) (he _)
theorem op_add_str : OpR X (binaryOp .Add) (fun x y H Q => ∃ i j, x = .str i ∧ y = .str j ∧ i.length + j.length ≤ sizeLine ∧ Q (.str (i ++ j)) H) := by
  intro pins s σ H x y v u Q I rx ry h
  obtain ⟨i, j, rfl, rfl, hz, q⟩ := h
  obtain ⟨t, rfl⟩ := rx
  obtain ⟨t', rfl⟩ := ry
  exact add_str (fun t' tk => ⟨.str (i ++ j), H, I.tok _, ⟨_, rfl⟩, q⟩) hz
theorem vals1 {x : V} {us : List Value} (r : Vals [x] us) : ∃ u, us = [u] ∧ RelV x u := by
  cases r with
  | cons r1 r2 => cases r2; exact ⟨_, rfl, r1⟩
theorem vals2 {x y : V} {us : List Value} (r : Vals [x, y] us) : ∃ u w', us = [u, w'] ∧ RelV x u ∧ RelV y w' := by
  cases r with
  | cons r1 r2 =>
    cases r2 with
    | cons r3 r4 => cases r4; exact ⟨_, _, rfl, r1, r3⟩
theorem call_str_int : CallR X (.type "str") (fun xs H Q => ∃ i, xs = [.int i] ∧ i.natAbs.log2 < 1920 ∧ Q (.str (toString i)) H) := by
  intro pins s σ H xs us Q I r h
  obtain ⟨i, rfl, hz, q⟩ := h
  obtain ⟨u, rfl, t, rfl⟩ := vals1 r
  exact PySem.P.str_of_int hz ⟨.str _, H, I.tok _, ⟨_, rfl⟩, q⟩
def LenV (K : PySem.W.Frag) (x : V) (H : Hp) (n : Nat) : Prop :=
  match x with
  | .str y => y.length ≤ sizeLine ∧ n = y.length
  | .byt y => y.size ≤ sizeLine ∧ n = y.size
  | .ref p => (∃ xs, SqL K H p xs ∧ n = xs.length) ∨ ∃ xs, SqT K H p xs ∧ n = xs.length
  | _ => False
theorem call_len : CallR X (.builtin "len") (fun xs H Q => ∃ x n, xs = [x] ∧ LenV X.K x H n ∧ Q (.int n) H) := by
  intro pins s σ H xs us Q I r h
  obtain ⟨x, n, rfl, e, q⟩ := h
  obtain ⟨u, rfl, rx⟩ := vals1 r
  have hl := line63
  have hs : sizeLine = 16777216 := sizeLine_eq
  cases x with
  | str y =>
    obtain ⟨t, rfl⟩ := rx
    obtain ⟨hy, e'⟩ : y.length ≤ sizeLine ∧ n = y.length := e
    subst e'
    exact len_str (by omega) ⟨.int _, H, I.tok _, ⟨_, rfl⟩, q⟩
  | byt y =>
    obtain ⟨t, rfl⟩ := rx
    obtain ⟨hy, e'⟩ : y.size ≤ sizeLine ∧ n = y.size := e
    subst e'
    exact PySem.W.len_bytes (by omega) ⟨.int _, H, I.tok _, ⟨_, rfl⟩, q⟩
  | ref p =>
    cases rx
    have e' : (∃ xs, SqL X.K H p xs ∧ n = xs.length) ∨ ∃ xs, SqT X.K H p xs ∧ n = xs.length := e
    rcases e' with ⟨xs, hx, e'⟩ | ⟨xs, hx, e'⟩
    · subst e'
      obtain ⟨its, r', pl, hz⟩ := I.list hx
      have hlen := r'.length
      exact Calls.call_len_list pl.isList (by simp only [List.size_toArray]; omega) ⟨.int xs.length, H, I.tok _, ⟨_, by simp only [List.size_toArray]; rw [hlen]⟩, q⟩
    · subst e'
      obtain ⟨its, r', pl, hz⟩ := I.tuple hx
      have hlen := r'.length
      exact len_tuple pl (by simp only [List.size_toArray]; omega) ⟨.int xs.length, H, I.tok _, ⟨_, by simp only [List.size_toArray]; rw [hlen]⟩, q⟩
  | _ => exact (show False from e).elim
end
end L2
namespace L2
open PySem PySem.Spec PyProof.Rows
structure ObjM (h : Heap) (x dx C : Addr) (mA : Str → Option Value) : Prop where
  obj : h.get? x = some (PySem.W.instObj C dx)
  ns : h.Ns1 dx mA
  ne : dx ≠ x
theorem lookIn_ns {h : Heap} {dx : Addr} {mA : Str → Option Value} (n : h.Ns1 dx mA) : ∃ od, h.get? dx = some od ∧ ∀ name, PySem.W.lookIn name od = some (mA name) := by
  obtain ⟨o, es, ep, ho, hd, hk, _, hm⟩ := n
  refine ⟨o, ho, fun name => ?_⟩
  have e := hm name
  unfold nsFind findBy at e
  rw [← Array.find?_toList] at e
  unfold PySem.W.lookIn
  rw [hd]
  dsimp only
  split
  · rename_i y q
    rw [q] at e
    exact congrArg some e
  · rename_i q
    rw [q] at e
    have a : es.toList.any (·.refKey) = false := by
      rw [List.any_eq_false]
      intro y hy
      obtain ⟨z, t, hkey⟩ := hk y (Array.mem_toList_iff.mp hy)
      simp [DictEntry.refKey, hkey]
    have a' : ¬ es.toList.any (·.refKey) = true := by rw [a]; exact Bool.false_ne_true
    rw [if_neg a']
    exact congrArg some e
theorem ObjM.look {h : Heap} {x dx C : Addr} {mA : Str → Option Value} (I : ObjM h x dx C mA) : ∃ od, PySem.W.InstAt h x (PySem.W.instObj C dx) C (some od) ∧ ∀ name, PySem.W.lookIn name od = some (mA name) :=
  let ⟨od, ho, hl⟩ := lookIn_ns I.ns
  ⟨od, ⟨I.obj, rfl, rfl, ho⟩, hl⟩
section
variable {prog : Program} {w : World} {A : Around} {E : Value → Shared → Prop} {s : Shared} {K : PySem.W.Frag} {x dx C f : Addr} {mA : Str → Option Value} {name : Str} {v : Value}
end
section
variable {P : Program} {w : World} {H H' : Hp} {h h' : Heap} {a C dx : Addr} {fs fs' : List (Str × V)}
theorem ins_get (hok : HOk P w H h) (e : H a = some (.ins C dx fs)) : ∃ mA, ObjM h a dx C mA ∧ (∀ f, RelO (fs.lookup f) (mA f)) ∧ PySem.Within mA (fs.map (·.1)) ∧ fs.length ≤ 1000 ∧ H dx = some (.own a) := by
  obtain ⟨d, z, ne, ob, mA, n, r, q⟩ := (show ObjOk P w H h a (.ins C dx fs) from hok a _ e)
  exact ⟨mA, ⟨ob, n, ne⟩, r, q, z, d⟩
end
structure Cls (K : PySem.W.Frag) (C : Addr) : Prop where
  pg : PySem.W.plainGet K C Str.empty = true
  hd : PySem.W.hasDictIn K C = true
  po : PySem.W.plainOver K C = true
  sa : PySem.W.findIn K (.ref C) "__setattr__" = some (some (.builtin "object.__setattr__"))
theorem Cls.get {K : PySem.W.Frag} {C : Addr} (c : Cls K C) (f : Str) : PySem.W.plainGet K C f = true := c.pg
structure Con (K : PySem.W.Frag) (C : Addr) (f : Str) (v : V) (u : Value) : Prop where
  at_ : PySem.W.findIn K (.ref C) f = some (some u)
  rel : RelV v u
  get : PySem.W.specialIn K u "__get__" = some none
  cp : PySem.W.copiedNames.contains f = false
structure Meth (K : PySem.W.Frag) (C : Addr) (m : Str) (f : Addr) : Prop where
  at_ : PySem.W.findIn K (.ref C) m = some (some (.ref f))
  fn : PySem.W.isFn K (.ref f) = true
  kp : PySem.W.keepIn K (.ref f) = true
section
variable {X : Cx} {pins : List (Addr × Obj)} {σ : St} {H : Hp} {s : Shared} {a C dx : Addr} {fs : List (Str × V)} {f : Str} {v : V} {A : Around} {E : Value → Shared → Prop}
end
section
variable {X : Cx} {o e value : Expr} {f : Str} {pos pos' tpos : Pos} {ta tv : TE}
end
section
variable {X : Cx} {pins : List (Addr × Obj)} {σ : St} {H : Hp} {s : Shared} {A : Around} {E : Value → Shared → Prop} {Q : Value → Shared → Prop} {c : Value} {b : Bool}
inductive TyOf (K : PySem.W.Frag) (H : Hp) : V → Value → Prop where
  | non : TyOf K H .non (.type "NoneType")
  | bl (x : Bool) : TyOf K H (.bl x) (.type "bool")
  | int (i : Int) : TyOf K H (.int i) (.type "int")
  | str (x : Str) : TyOf K H (.str x) (.type "str")
  | flt (x : UInt64) : TyOf K H (.flt x) (.type "float")
  | lst {a : Addr} {xs : List V} (e : H a = some (.lst xs)) : TyOf K H (.ref a) (.type "list")
  | frz {a : Addr} {o : Obj} {xs : List V} (e : H a = some (.frz o (.lst xs))) : TyOf K H (.ref a) (.type "list")
  | tup {a : Addr} {xs : List V} (e : H a = some (.tup xs)) : TyOf K H (.ref a) (.type "tuple")
  | dK {a : Addr} {kvs : List (Key × V)} (e : H a = some (.dK kvs)) : TyOf K H (.ref a) (.type "dict")
  | dT {a : Addr} {kvs : List (List Key × V)} (e : H a = some (.dT kvs)) : TyOf K H (.ref a) (.type "dict")
  | ins {a C dx : Addr} {fs : List (Str × V)} (e : H a = some (.ins C dx fs)) (cl : Cls K C) (ha : PySem.W.findIn K (.ref C) "__class__" = some (some (.builtin "object.__class__")))
      (hn : PySem.W.specialIn K (.builtin "object.__class__") "__get__" = some (some (.builtin "getset_descriptor.__get__"))) (htk : PySem.W.takesIn K (.builtin "object.__class__") = some true)
      (hm : PySem.W.mroIn K C (.type "object") = some true) : TyOf K H (.ref a) (.ref C)
theorem isinst_ok {x : V} {u t : Value} (I : Inv X pins σ H s) (rx : RelV x u) (ty : TyOf X.K H x t) (e : PySem.W.kitOne X.K t c = some b) (h : ∀ tk, Q (.bool b) { s with toks := tk }) :
    wpAny (model X.prog X.w) A (call (.builtin "isinstance") [u, c]) Q E s := by
  cases ty with
  | non => cases (show u = Value.none from rx); exact PySem.W.kia_one PySem.W.kitx_none I.kIn True.intro e (fun z => nomatch z) h
  | bl y => cases (show u = Value.bool y from rx); exact PySem.W.kia_one PySem.W.kitx_bool I.kIn True.intro e (fun z => nomatch z) h
  | int i => obtain ⟨t, q⟩ := (show ∃ t, u = Value.int i t from rx); cases q; exact PySem.W.kia_one PySem.W.kitx_int I.kIn True.intro e (fun z => nomatch z) h
  | str y => obtain ⟨t, q⟩ := (show ∃ t, u = Value.str y t from rx); cases q; exact PySem.W.kia_one PySem.W.kitx_str I.kIn True.intro e (fun z => nomatch z) h
  | flt y => obtain ⟨t, q⟩ := (show ∃ t, u = Value.float y t from rx); cases q; exact PySem.W.kia_one PySem.W.kitx_float I.kIn True.intro e (fun z => nomatch z) h
  | @lst a xs ea =>
    cases (show u = Value.ref a from rx)
    obtain ⟨_, _, n, _, h1⟩ := (show ObjOk X.prog X.w H s.heap a (.lst xs) from I.hok a _ ea)
    exact PySem.W.kia_one PySem.W.kitx_list I.kIn ⟨_, h1, rfl⟩ e (fun z => nomatch z) h
  | @frz a ob xs ea =>
    cases (show u = Value.ref a from rx)
    obtain ⟨_, _, _, n, _, h1⟩ := (show ObjOk X.prog X.w H s.heap a (.frz ob (.lst xs)) from I.hok a _ ea)
    exact PySem.W.kia_one PySem.W.kitx_list I.kIn ⟨_, h1, rfl⟩ e (fun z => nomatch z) h
  | @tup a xs ea =>
    cases (show u = Value.ref a from rx)
    obtain ⟨_, _, _, p⟩ := (show ObjOk X.prog X.w H s.heap a (.tup xs) from I.hok a _ ea)
    obtain ⟨o, h1, h2, _⟩ := p
    exact PySem.W.kia_one PySem.W.kitx_tuple I.kIn ⟨o, h1, h2⟩ e (fun z => nomatch z) h
  | @dK a kvs ea =>
    cases (show u = Value.ref a from rx)
    obtain ⟨_, _, vs, _, p⟩ := (show ObjOk X.prog X.w H s.heap a (.dK kvs) from I.hok a _ ea)
    obtain ⟨o, es, ep, h1, h2, _⟩ := p
    exact PySem.W.kia_one PySem.W.kitx_dict I.kIn ⟨o, h1, h2.1⟩ e (fun z => nomatch z) h
  | @dT a kvs ea =>
    cases (show u = Value.ref a from rx)
    obtain ⟨_, _, xs, _, o, es, ep, h1, h2, _⟩ := (show ObjOk X.prog X.w H s.heap a (.dT kvs) from I.hok a _ ea)
    exact PySem.W.kia_one PySem.W.kitx_dict I.kIn ⟨o, h1, h2.1⟩ e (fun z => nomatch z) h
  | @ins a C dx fs ea cl ha hn htk hm =>
    cases (show u = Value.ref a from rx)
    obtain ⟨mA, O, _⟩ := ins_get I.hok ea
    obtain ⟨od, J, _⟩ := O.look
    exact PySem.W.kia_one (PySem.W.kitx_own (cl.get _) cl.hd ha hn htk hm) I.kIn J e (fun z => nomatch z) h
end
end L2
namespace L2
open PySem PySem.Spec PyProof.Rows
structure Room (k : Nat) (A : Around) : Prop where
  hd : A.handled = none
  dp : A.depth + 3 * k + 5 < recursionLimit
  un : A.units + 16 * k + 200 < cLine
theorem Room.mono {j k : Nat} {A : Around} (r : Room k A) (h : j ≤ k) : Room j A := ⟨r.hd, by have := r.dp; omega, by have := r.un; omega⟩
theorem Room.deeper {k : Nat} {A : Around} (r : Room (k + 1) A) (env : Env) : Room k (A.deeper env) :=
  ⟨r.hd, by have := r.dp; show A.depth + 1 + 3 * k + 5 < _; omega, by have := r.un; show A.units + 3 + 16 * k + 200 < _; omega⟩
theorem Room.in1 {k : Nat} {A : Around} (r : Room (k + 1) A) : Room k A.in1 :=
  ⟨r.hd, by have := r.dp; show A.depth + 3 * k + 5 < _; omega, by have := r.un; show A.units + 1 + 16 * k + 200 < _; omega⟩
theorem Room.depth {k : Nat} {A : Around} (r : Room k A) : A.depth < recursionLimit := by have := r.dp; omega
theorem Room.units {k : Nat} {A : Around} (r : Room k A) : A.units + 64 < cLine := by have := r.un; omega
def tNil : TA := fun _ H Q => Q [] H
def tCons (ta : TE) (tr : TA) : TA := fun σ H Q => ta σ H fun x H1 => tr σ H1 fun xs H2 => Q (x :: xs) H2
section
variable {X : Cx} {e : Expr} {es : List Expr} {te : TE} {t : TA} {pos : Pos}
theorem pa_nil : PA X [] tNil := fun _ _ _ _ H Q I h => Calls.spliced_nil ⟨[], H, I, .nil, h⟩
theorem pa_cons (ha : PE X e te) (hr : PA X es t) (hs : starEach (e :: es) X.env = (false, eval e X.env) :: starEach es X.env := by rfl) : PA X (e :: es) (tCons te t) := by
  intro pos pins s σ H Q I h
  rw [hs]
  show wpAny _ _ (spliced ((false, eval e X.env) :: backTo pos (starEach es X.env))) _ _ s
  refine Calls.spliced_cons (thn (ha pins s σ H _ I h) fun u s1 ⟨x, H1, I1, r1, q1⟩ => ?_)
  exact thn (hr pos pins s1 σ H1 _ I1 q1) fun us s2 ⟨xs, H2, I2, r2, q2⟩ => ⟨x :: xs, H2, I2, .cons r1 r2, q2⟩
def tTup (t : TA) : TE := fun σ H Q => t σ H fun xs H1 => xs.length ≤ sizeLine ∧ ∀ p, H1 p = none → Q (.ref p) (upd H1 p (.tup xs))
def tLst (t : TA) : TE := fun σ H Q => t σ H fun xs H1 => xs.length ≤ sizeLine ∧ ∀ p, H1 p = none → Q (.ref p) (upd H1 p (.lst xs))
theorem pe_tup {x1} (h : PA X es t) : PE X (.Tuple es x1 pos) (tTup t) := by
  intro pins s σ H Q I hq
  refine wpAny_Tuple_spliced (thn (h pos pins s σ H _ I hq) fun us s1 ⟨xs, H1, I1, r, z, q⟩ => ⟨by rw [← r.length]; exact z, ?_⟩)
  have hf : H1 s1.heap.objs.size = none := I1.hok.fresh (Nat.le_refl _)
  refine ⟨.ref s1.heap.objs.size, upd H1 s1.heap.objs.size (.tup xs), I1.laid (t' := s1.toks) (fun b u e => Heap.get?_push_of_some _ e) (Nat.le_refl _) ?_, rfl, q _ hf⟩
  exact ⟨z, us, r, ⟨_, Heap.get?_push_size _ rfl, rfl, _, rfl⟩⟩
theorem pe_lst (h : PA X es t) : PE X (.List es pos) (tLst t) := by
  intro pins s σ H Q I hq
  refine wpAny_List_spliced (thn (h pos pins s σ H _ I hq) fun us s1 ⟨xs, H1, I1, r, z, q⟩ => ⟨by rw [← r.length]; exact z, ?_⟩)
  have hf : H1 s1.heap.objs.size = none := I1.hok.fresh (Nat.le_refl _)
  refine ⟨.ref s1.heap.objs.size, upd H1 s1.heap.objs.size (.lst xs), I1.laid (t' := s1.toks) (fun b u e => Heap.get?_push_of_some _ e) (Nat.le_refl _) ?_, rfl, q _ hf⟩
  exact ⟨z, us, 0, r, Heap.get?_push_size _ rfl⟩
end
abbrev Sp := List V → Hp → VK → XK → Prop
abbrev CXT := List Env → Hp → Shared → XK → Value → Shared → Prop
structure Env0 (P : Program) (w : World) (K : PySem.W.Frag) (mg : Str → Option Value) (base : Heap) (A : Around) (outer : List Env) (s : Shared) (H : Hp) : Prop where
  frames : A.frames = some outer
  mod : Mod K mg base
  bs : ∀ b o, base.get? b = some o → s.heap.get? b = some o ∧ H b = none
  bsz : base.objs.size ≤ s.heap.objs.size
  funs : s.heap.FunFrames base outer
  frf : ∀ b ∈ frs outer, H b = none
  hok : HOk P w H s.heap
  bare : AllBare s.gens
def CE (outer : List Env) (P : Program) (w : World) (H : Hp) (s : Shared) (Q : VK) (u : Value) (s' : Shared) : Prop :=
  ∃ v H', s'.os = s.os ∧ AllBare s'.gens ∧ Un (frs outer) [] H H' s.heap s'.heap ∧ HOk P w H' s'.heap ∧ RelV v u ∧ Q v H'
def CR (CX : CXT) (outer : List Env) (P : Program) (w : World) (H : Hp) (s : Shared) (Q : VK) (E : XK) (r : Result) (s' : Shared) : Prop :=
  match r with
  | .ok (.ret u) => CE outer P w H s Q u s'
  | .ok _ => False
  | .error e => CX outer H s E e s'
structure FnOk (P : Program) (w : World) (K : PySem.W.Frag) (mg : Str → Option Value) (base : Heap) (CX : CXT) (k : Nat) (f : Addr) (fd : FuncData) (ps : List Str) (sp : Sp) : Prop where
  len : ∀ vs H Q E, sp vs H Q E → vs.length = ps.length
  run : ∀ (A : Around) (outer : List Env) (s : Shared) (H : Hp) (args : Args) (us : List Value) (vs : List V) (Q : VK) (E : XK), Room k A → Env0 P w K mg base A outer s H → BindsTo s fd args (ps.zip us) → Vals vs us → sp vs H Q E →
    codeAny (model P w) A (.call (.ref f) args) (CR CX outer P w H s Q E) s
theorem FnOk.mono {P : Program} {w : World} {K : PySem.W.Frag} {mg : Str → Option Value} {base : Heap} {CX : CXT} {j k : Nat} {f : Addr} {fd : FuncData} {ps : List Str} {sp : Sp} (F : FnOk P w K mg base CX j f fd ps sp) (h : j ≤ k) :
    FnOk P w K mg base CX k f fd ps sp := ⟨F.len, fun A outer s H args us vs Q E hr => F.run A outer s H args us vs Q E (hr.mono h)⟩
theorem FnOk.imp {P : Program} {w : World} {K : PySem.W.Frag} {mg : Str → Option Value} {base : Heap} {CX : CXT} {k : Nat} {f : Addr} {fd : FuncData} {ps : List Str} {sp sp' : Sp} (F : FnOk P w K mg base CX k f fd ps sp)
    (h : ∀ vs H Q E, sp' vs H Q E → sp vs H Q E) : FnOk P w K mg base CX k f fd ps sp' :=
  ⟨fun vs H Q E q => F.len vs H Q E (h _ _ _ _ q), fun A outer s H args us vs Q E hr he hb hv hs => F.run A outer s H args us vs Q E hr he hb hv (h _ _ _ _ hs)⟩
theorem Env0.in1 {P : Program} {w : World} {K : PySem.W.Frag} {mg : Str → Option Value} {base : Heap} {A : Around} {outer : List Env} {s : Shared} {H : Hp} (e : Env0 P w K mg base A outer s H) :
    Env0 P w K mg base A.in1 outer s H := ⟨e.frames, e.mod, e.bs, e.bsz, e.funs, e.frf, e.hok, e.bare⟩
section
variable {X : Cx} {pins : List (Addr × Obj)} {σ : St} {H : Hp} {s s' : Shared}
theorem Inv.env0 (I : Inv X pins σ H s) : Env0 X.prog X.w X.K X.mg X.base X.A X.stack s H :=
  ⟨I.ok.frames, I.ok.mod, I.bs, Nat.le_trans I.ok.bsz I.sz, I.stack, I.stkFree, I.hok, I.bare⟩
theorem Inv.after {Q : VK} {u : Value} (I : Inv X pins σ H s) (h : CE X.stack X.prog X.w H s Q u s') : EP X pins σ Q u s' := by
  obtain ⟨v, H', os, bare, un, hok, r, q⟩ := h
  obtain ⟨hh, g, d, t, os'⟩ := s'
  obtain rfl : os' = s.os := os
  exact ⟨v, H', I.call (h' := hh) (g' := g) (d' := d) (t' := t) (ch := []) un hok bare (fun b z => absurd z (by simp)), r, q⟩
end
def tCall (sp : Sp) (dvs : List V) (E : XK) (t : TA) : TE := fun σ H Q => t σ H fun vs H1 => sp (vs ++ dvs) H1 Q E
def Binds (K : PySem.W.Frag) (fd : FuncData) (ps : List Str) (ds : List Value) : Prop :=
  ∀ (s : Shared) (us : List Value), K.In s.heap → (us ++ ds).length = ps.length → BindsTo s fd ⟨us, []⟩ (ps.zip (us ++ ds))
theorem Binds.all {K : PySem.W.Frag} {fd : FuncData} {ps : List Str} (h : ∀ us : List Value, us.length = ps.length → bindArgs fd ⟨us, []⟩ = pure (ps.zip us)) : Binds K fd ps [] := fun s us _ hl => by
  rw [List.append_nil] at hl ⊢
  exact .of_eq (h us hl)
def Passes (CX : CXT) (X : Cx) (E : XK) : Prop := ∀ (pins : List (Addr × Obj)) (σ : St) (H : Hp) (s : Shared) (e : Value) (s' : Shared), Inv X pins σ H s → CX X.stack H s E e s' → X.xe e s'
section
variable {X : Cx} {CX : CXT} {k : Nat} {f C : Addr} {fd : FuncData} {ps : List Str} {sp : Sp} {dvs : List V} {ds : List Value} {E : XK} {x m : Str} {p pos apos : Pos} {e o : Expr} {es : List Expr} {ta : TE} {t : TA}
theorem run_fn {pins : List (Addr × Obj)} {σ : St} {H : Hp} {s : Shared} {Q : VK} {us : List Value} {vs : List V} (F : FnOk X.prog X.w X.K X.mg X.base CX k f fd ps sp) (hr : Room k X.A) (hb : Binds X.K fd ps ds) (hd : Vals dvs ds) (hx : Passes CX X E)
    (I : Inv X pins σ H s) (r : Vals vs us) (h : sp (vs ++ dvs) H Q E) : wpAny (model X.prog X.w) X.A (call (.ref f) us) (EP X pins σ Q) X.xe s := by
  have r2 : Vals (vs ++ dvs) (us ++ ds) := r.append hd
  have hl : (us ++ ds).length = ps.length := by rw [← r2.length]; exact F.len _ _ _ _ h
  refine wpAny_call (codeAny_mono (F.run X.A X.stack s H ⟨us, []⟩ (us ++ ds) (vs ++ dvs) Q E hr I.env0 (hb s us I.kIn hl) r2 h) fun r s' hq => ?_)
  cases r with
  | error e => exact hx pins σ H s e s' I hq
  | ok fl =>
    cases fl with
    | ret u => exact I.after hq
    | next => exact False.elim hq
    | brk => exact False.elim hq
    | cont => exact False.elim hq
theorem pe_call (F : FnOk X.prog X.w X.K X.mg X.base CX k f fd ps sp) (hr : Room k X.A) (hg : Gl X x) (hm : X.mg x = some (.ref f)) (hk : PySem.W.keepIn X.K (.ref f) = true) (hb : Binds X.K fd ps ds) (hd : Vals dvs ds) (hx : Passes CX X E)
    (ha : PA X (e :: es) t) (hdb : (x == ("__debug__" : Str)) = false := by decide) (he : starEach (e :: es) X.env = (false, eval e X.env) :: starEach es X.env := by rfl) (hpl : (backTo pos (starEach es X.env)).any (·.1) = false := by rfl) :
    PE X (.Call (.Name x p) (e :: es) [] pos) (tCall sp dvs E t) := by
  intro pins s σ H Q I h
  refine wpAny_Call_Name_kw (ld_glob I hg hm ?_ hdb)
  refine PySem.W.callWith_K (h₀ := X.base) I.ok.mod.kin hk (thn (ha pos pins s σ H _ I h) fun us s1 ⟨vs, H1, I1, r, q⟩ => ⟨I1.kIn, ?_⟩) he hpl
  exact run_fn F hr hb hd hx I1 r q
theorem pe_call0 (F : FnOk X.prog X.w X.K X.mg X.base CX k f fd ps sp) (hr : Room k X.A) (hg : Gl X x) (hm : X.mg x = some (.ref f)) (hk : PySem.W.keepIn X.K (.ref f) = true) (hb : Binds X.K fd ps ds) (hd : Vals dvs ds) (hx : Passes CX X E)
    (hdb : (x == ("__debug__" : Str)) = false := by decide) : PE X (.Call (.Name x p) [] [] pos) (tCall sp dvs E tNil) := by
  intro pins s σ H Q I h
  refine wpAny_Call_Name_kw (ld_glob I hg hm ?_ hdb)
  exact PySem.W.callWith_K0 I.kIn hk (run_fn (us := []) F hr hb hd hx I .nil h)
structure Mk (K : PySem.W.Frag) (C f : Addr) : Prop where
  makes : PySem.W.makesIn K C = true
  init : PySem.W.findIn K (.ref C) "__init__" = some (some (.ref f))
  fn : PySem.W.isFn K (.ref f) = true
  kp : PySem.W.keepIn K (.ref C) = true
end
section
variable {X : Cx} {CX : CXT} {k : Nat} {f C : Addr} {fd : FuncData} {ps ks : List Str} {sp : Sp} {E : XK} {x m : Str} {p pos apos kpos : Pos} {e o : Expr} {es : List Expr} {kws : List Keyword} {te ta : TE} {t tk : TA} {nm : Option Str}
structure KBinds (K : PySem.W.Frag) (fd : FuncData) (ps ks : List Str) (g : List Value → List Value → List Value) (gV : List V → List V → List V) : Prop where
  to : ∀ (s : Shared) (us ws : List Value), K.In s.heap → (g us ws).length = ps.length → BindsTo s fd ⟨us, ks.zip ws⟩ (ps.zip (g us ws))
  rel : ∀ {vs : List V} {us : List Value} {zs : List V} {ws : List Value}, Vals vs us → Vals zs ws → Vals (gV vs zs) (g us ws)
variable {g : List Value → List Value → List Value} {gV : List V → List V → List V}
end
structure FnScope (N P : List Str) (sc : Scope) : Prop where
  kind : sc.kind = .function
  co : sc.isCoroutine = false
  gen : sc.isGenerator = false
  nd : N.Nodup
  pre : N.take P.length = P
  par : ∀ x ∈ P, sc.names.lookup x = some .local ∨ sc.names.lookup x = some .cell
  nofree : ∀ y ∈ sc.names, y.2 ≠ .free
theorem bindL_out {kindOf : Str → Option NameKind} {x : Str} : ∀ {binds : List (Str × Value)} {m : Str → Option Value}, (∀ v, (x, v) ∉ binds) → bindL kindOf binds m x = m x
  | [], _, _ => rfl
  | (n, v) :: r, m, h => by
    unfold bindL
    rw [bindL_out fun w hw => h w (List.mem_cons_of_mem _ hw)]
    split
    · have : x ≠ n := by rintro rfl; exact h v List.mem_cons_self
      simp [this]
    · rfl
theorem bindC_out {kindOf : Str → Option NameKind} {x : Str} : ∀ {binds : List (Str × Value)} {m : Str → Option Value}, (∀ v, (x, v) ∉ binds) → bindC kindOf binds m x = m x
  | [], _, _ => rfl
  | (n, v) :: r, m, h => by
    unfold bindC
    rw [bindC_out fun w hw => h w (List.mem_cons_of_mem _ hw)]
    split
    · rfl
    · have : x ≠ n := by rintro rfl; exact h v List.mem_cons_self
      simp [this]
theorem bindL_get {kindOf : Str → Option NameKind} {x : Str} {v : Value} : ∀ {P : List Str} {vs : List Value} {i : Nat} {m : Str → Option Value}, P.Nodup → P[i]? = some x → vs[i]? = some v → kindOf x = some .local →
    bindL kindOf (P.zip vs) m x = some v
  | [], _, _, _, _, h, _, _ => by simp at h
  | _ :: _, [], _, _, _, _, h, _ => by simp at h
  | p :: P, w :: vs, 0, m, nd, h1, h2, hk => by
    simp at h1 h2; subst h1; subst h2
    show bindL kindOf ((p, w) :: P.zip vs) m p = _
    unfold bindL
    rw [bindL_out fun v hv => (List.nodup_cons.mp nd).1 (List.of_mem_zip hv).1, if_pos hk]
    simp
  | p :: P, w :: vs, i + 1, m, nd, h1, h2, hk => by
    show bindL kindOf ((p, w) :: P.zip vs) m x = _
    unfold bindL
    exact bindL_get (i := i) (List.nodup_cons.mp nd).2 (by simpa using h1) (by simpa using h2) hk
theorem bindC_get {kindOf : Str → Option NameKind} {x : Str} {v : Value} : ∀ {P : List Str} {vs : List Value} {i : Nat} {m : Str → Option Value}, P.Nodup → P[i]? = some x → vs[i]? = some v → kindOf x ≠ some .local →
    bindC kindOf (P.zip vs) m x = some v
  | [], _, _, _, _, h, _, _ => by simp at h
  | _ :: _, [], _, _, _, _, h, _ => by simp at h
  | p :: P, w :: vs, 0, m, nd, h1, h2, hk => by
    simp at h1 h2; subst h1; subst h2
    show bindC kindOf ((p, w) :: P.zip vs) m p = _
    unfold bindC
    rw [bindC_out fun v hv => (List.nodup_cons.mp nd).1 (List.of_mem_zip hv).1, if_neg hk]
    simp
  | p :: P, w :: vs, i + 1, m, nd, h1, h2, hk => by
    show bindC kindOf ((p, w) :: P.zip vs) m x = _
    unfold bindC
    exact bindC_get (i := i) (List.nodup_cons.mp nd).2 (by simpa using h1) (by simpa using h2) hk
def start (N : List Str) (vs : List V) : St := vs.map some ++ List.replicate (N.length - vs.length) none
def cxOf (CX : CXT) (P : Program) (w : World) (K : PySem.W.Frag) (mg : Str → Option Value) (base : Heap) (N : List Str) (qual : Str) (scope : Scope) (f : Addr) (cd : Value) (A : Around) (outer : List Env) (s : Shared) (H : Hp) (E : XK) : Cx where
  prog := P
  w := w
  K := K
  mg := mg
  base := base
  A := A.deeper (envOfC qual scope s.heap.objs.size f cd)
  N := N
  s₀ := s
  H₀ := H
  env := envOfC qual scope s.heap.objs.size f cd
  outer := outer
  stack := envOfC qual scope s.heap.objs.size f cd :: outer
  ex := []
  calm := true
  fn := fun _ => true
  pn := []
  xe := fun e s' => wpAny (model P w) (A.deeper (envOfC qual scope s.heap.objs.size f cd)) (leaving (envOfC qual scope s.heap.objs.size f cd) e) (fun _ s'' => CX outer H s E e s'') (fun e' s'' => CX outer H s E e' s'') s'
theorem cell_has {sc : Scope} {n : Nat} {x : Str} (h : sc.names.lookup x = some .cell) : ∃ c, (cellsFrom n sc.names []).lookup x = some c := by
  have q := PySem.W.cellsFrom_some sc.names n [] (.inl h)
  exact Option.isSome_iff_exists.mp q
theorem inv_start {CX : CXT} {P : Program} {w : World} {K : PySem.W.Frag} {mg : Str → Option Value} {base : Heap} {N ps : List Str} {qual : Str} {scope : Scope} {f : Addr} {cd : Value} {A : Around} {outer : List Env} {s s1 : Shared} {H : Hp} {E : XK} {us : List Value} {vs : List V}
    (S : FnScope N ps scope) (hd : A.handled = none) (e0 : Env0 P w K mg base A outer s H) (hl : vs.length = ps.length) (r : Vals vs us)
    (x : InCallC s s.heap.objs.size (bindL (envOfC qual scope s.heap.objs.size f cd).kindOf (ps.zip us) fun _ => none) (cellsFrom (s.heap.objs.size + 1) scope.names []) (bindC (envOfC qual scope s.heap.objs.size f cd).kindOf (ps.zip us) fun _ => none) s1) :
    Inv (cxOf CX P w K mg base N qual scope f cd A outer s H E) [] (start N vs) H s1 := by
  have hpl : ps.length ≤ N.length := by have := congrArg List.length S.pre; rw [List.length_take] at this; omega
  obtain ⟨h1, tk, rfl, hk⟩ := x.done
  have noA : ∀ b : Addr, b ∉ (cxOf CX P w K mg base N qual scope f cd A outer s H E).ex := fun b z => absurd (show b ∈ ([] : List Addr) from z) (by simp)
  refine ⟨⟨e0.mod, S.kind, rfl, rfl, Nat.le_refl _, fun y z c h1 h2 => ?_, fun y hy => ?_, fun y c _ h => ?_, fun _ => hd, Around.frames_deeper e0.frames, .inr ⟨rfl, rfl⟩, fun b z => absurd z (noA b), e0.bs, e0.bsz, fun b _ _ => noA b, fun b z => absurd z (noA b), e0.funs, e0.frf⟩,
    rfl, e0.bare, Un.kept hk, ⟨_, x.toInCall.ns, fun i y v h1 h2 h3 => ?_⟩, fun y c h => ⟨_, x.cell y c h⟩, e0.hok.fresh (Nat.le_refl _), fun y c h => ?_, fun p hp => absurd (show p ∈ ([] : List (Addr × Obj)) from hp) (by simp), e0.hok.kept hk, ?_⟩
  · exact name_of_addr x.apart (PySem.mem_of_lookup h1) (PySem.mem_of_lookup h2)
  · have hy : scope.names.lookup y = some .cell ∨ scope.names.lookup y = some .free := hy
    rcases hy with hy | hy
    · exact cell_has hy
    · exact absurd rfl (S.nofree _ (PySem.mem_of_lookup hy))
  · exact Nat.le_of_lt (x.above y c (PySem.mem_of_lookup h))
  · have hi : i < vs.length := by
      unfold start at h2
      by_cases hi : i < vs.length
      · exact hi
      · rw [List.getElem?_append_right (by simpa using hi)] at h2
        rw [List.getElem?_replicate] at h2
        split at h2 <;> cases h2
    have ha : vs[i]? = some v := by
      unfold start at h2
      rw [List.getElem?_append_left (by simpa using hi), List.getElem?_map] at h2
      cases e : vs[i]? with
      | none => rw [e] at h2; cases h2
      | some a => rw [e] at h2; cases h2; rfl
    obtain ⟨u, hu, rv⟩ := r.get ha
    have hp : ps[i]? = some y := by
      rw [← S.pre, List.getElem?_take_of_lt (by omega)]; exact h1
    have ndP : ps.Nodup := by rw [← S.pre]; exact S.nd.sublist (List.take_sublist _ _)
    refine ⟨u, rv, ?_⟩
    rcases S.par y (List.mem_of_getElem? hp) with k | k
    · exact .inl ⟨k, bindL_get ndP hp hu k⟩
    · obtain ⟨c, e⟩ := cell_has (n := s.heap.objs.size + 1) k
      refine .inr ⟨.inl k, c, e, ?_⟩
      have q := x.cell y c e
      rw [bindC_get ndP hp hu (by show scope.names.lookup y ≠ _; rw [k]; decide)] at q
      exact q
  · exact e0.hok.fresh (Nat.le_of_lt (x.above y c (PySem.mem_of_lookup h)))
  · unfold start
    show _ = N.length
    rw [List.length_append, List.length_map, List.length_replicate]
    omega
theorem fn_of {CX : CXT} {P : Program} {w : World} {K : PySem.W.Frag} {mg : Str → Option Value} {base : Heap} {k : Nat} {f : Addr} {name qual : Str} {params : Arguments} {body : List Stmt} {scope : Scope} {dV kV doc pm cdv ct oc : Value} {an od : Option Addr}
    {osl : Array (Option Value)} {N ps : List Str} {sp : Sp} (lk : K.lookup f = some ⟨oc, od, .func (PySem.W.fnOf name qual params body scope dV kV doc pm an cdv ct), osl⟩) (hcd : PySem.W.codeIn K cdv qual = true) (S : FnScope N ps scope)
    (len : ∀ vs H Q E, sp vs H Q E → vs.length = ps.length)
    (hbody : ∀ (A : Around) (outer : List Env) (s : Shared) (H : Hp) (vs : List V) (Q : VK) (E : XK), Room k (A.deeper (envOfC qual scope s.heap.objs.size f cdv)) → sp vs H Q E →
      ∃ t, PSs (cxOf CX P w K mg base N qual scope f cdv A outer s H E) body t ∧ t { nx := fun _ H' => Q .non H', rt := Q } (start N vs) H) :
    FnOk P w K mg base CX (k + 1) f (PySem.W.fnOf name qual params body scope dV kV doc pm an cdv ct) ps sp := by
  refine ⟨len, fun A outer s H args us vs Q E hr e0 hb r hsp => ?_⟩
  have hl := len _ _ _ _ hsp
  have KX : K.In s.heap := e0.mod.kin.keeps fun b o e => (e0.bs b o e).1
  have lim : s.heap.NoLimit := e0.mod.nolimit.keeps fun b o e => (e0.bs b o e).1
  have hkind : ∀ y ∈ ps.zip us, scope.names.lookup y.1 = some .local ∨ (scope.names.lookup y.1 = some .cell ∧ ((cellsFrom (s.heap.objs.size + 1) scope.names []).lookup y.1).isSome = true) := fun ⟨n, v⟩ hy => by
    rcases S.par n (List.of_mem_zip hy).1 with q | q
    · exact .inl q
    · exact .inr ⟨q, PySem.W.cellsFrom_some _ _ _ (.inl q)⟩
  refine codeAny_call_function hr.depth (KX _ _ lk) rfl S.co S.gen rfl (PySem.W.codeRec_of KX hcd) (hb _ _ _ _ ?_)
  refine wpAny_newFunctionEnv_cells S.kind hkind fun env he s1 x => ?_
  subst he
  refine ⟨lim.keeps x.toInCall.keep, codeAny_func ?_⟩
  obtain ⟨t, ht, hq⟩ := hbody A outer s H vs Q E (hr.deeper _) hsp
  have I : Inv (cxOf CX P w K mg base N qual scope f cdv A outer s H E) [] (start N vs) H s1 := inv_start S hr.hd e0 hl r x
  refine wpAny_mono (ht [] s1 (start N vs) H _ I hq) (fun fl s' hs => ?_) fun e s' hs => hs
  have fin : ∀ {σ' : St} {H' : Hp} {v : V} {u : Value}, Inv (cxOf CX P w K mg base N qual scope f cdv A outer s H E) [] σ' H' s' → RelV v u → Q v H' → CE outer P w H s Q u s' :=
    fun {σ' H' v u} J rv q => ⟨v, H', J.os, J.bare, J.base, J.hok, rv, q⟩
  cases fl with
  | ret u =>
    obtain ⟨v, σ', H', J, rv, q⟩ := hs
    exact fin J rv q
  | next =>
    obtain ⟨σ', H', J, q⟩ := hs
    exact fin (v := V.non) (u := Value.none) J rfl q
  | brk =>
    obtain ⟨_, _, _, q⟩ := hs
    exact False.elim q
  | cont =>
    obtain ⟨_, _, _, q⟩ := hs
    exact False.elim q
end L2
namespace L2
open PySem PySem.Spec PyProof.Rows
section
variable {X : Cx} {x : Str} {p pos : Pos} {e : Expr} {es : List Expr} {t : TA} {id T : String} {r : List V → Hp → VK → Prop}
def tCB (r : List V → Hp → VK → Prop) (t : TA) : TE := fun σ H Q => t σ H fun vs H1 => r vs H1 Q
theorem pe_callB (hc : CallR X (.builtin id) r) (hg : Gl X x) (hm : X.mg x = none) (hv : bootBuiltins x = some (.builtin id)) (ha : PA X (e :: es) t) (hn : x ≠ "__name__" := by decide) (hdb : (x == ("__debug__" : Str)) = false := by decide)
    (he : starEach (e :: es) X.env = (false, eval e X.env) :: starEach es X.env := by rfl) (hpl : (backTo pos (starEach es X.env)).any (·.1) = false := by rfl) : PE X (.Call (.Name x p) (e :: es) [] pos) (tCB r t) := by
  intro pins s σ H Q I h
  refine wpAny_Call_Name_kw (ld_blt I hg hm hv ?_ hn hdb)
  exact PyProof.Rows.callWith_builtin1 (thn (ha pos pins s σ H _ I h) fun us s1 ⟨vs, H1, I1, r1, q1⟩ => hc pins s1 σ H1 vs us Q I1 r1 q1) he hpl
theorem pe_callTy (hc : CallR X (.type T) r) (hg : Gl X x) (hm : X.mg x = none) (hv : bootBuiltins x = some (.type T)) (ha : PA X (e :: es) t) (hn : x ≠ "__name__" := by decide) (hdb : (x == ("__debug__" : Str)) = false := by decide)
    (he : starEach (e :: es) X.env = (false, eval e X.env) :: starEach es X.env := by rfl) (hpl : (backTo pos (starEach es X.env)).any (·.1) = false := by rfl) : PE X (.Call (.Name x p) (e :: es) [] pos) (tCB r t) := by
  intro pins s σ H Q I h
  refine wpAny_Call_Name_kw (ld_blt I hg hm hv ?_ hn hdb)
  exact PyProof.Rows.callWith_type1 (thn (ha pos pins s σ H _ I h) fun us s1 ⟨vs, H1, I1, r1, q1⟩ => hc pins s1 σ H1 vs us Q I1 r1 q1) he hpl
end
end L2
namespace HT
open PySem PyProof.Rows
section
open PySem.SeqAt
open PySem.AutoSeq1 (wpAny_loadPart')
open PySem.MeetsSeq PySem.MeetsSeq2 PySem.MeetsSeq3
end
section
variable {prog : Program} {w : World} {A : Around} {E : Value → Shared → Prop} {s : Shared}
theorem cat_tup {t b : Addr} {vs ws : List Value} {Q : Value → Shared → Prop} (ht : IsTup s.heap t vs.toArray) (hb : IsTup s.heap b ws.toArray) (hv : vs ≠ [])
    (h1 : ws = [] → Q (.ref t) s) (h2 : ws ≠ [] → Q (.ref s.heap.objs.size) { s with heap := s.heap.push { cls := .type "tuple", data := .seq (vs ++ ws).toArray } })
    (hsz : vs.length + ws.length ≤ sizeLine) : wpAny (model prog w) A (binaryOp .Add (.ref t) (.ref b)) Q E s := by
  obtain ⟨⟨cls, dd, data, sl⟩, ho, hc, n, hd⟩ := id ht
  obtain ⟨⟨cls2, dd2, data2, sl2⟩, ho2, hc2, n2, hd2⟩ := id hb
  simp only at hc hd hc2 hd2
  subst hc hd hc2 hd2
  have e : vs.toArray ++ ws.toArray = (vs ++ ws).toArray := by simp
  by_cases hw : ws = []
  · exact concat_meets ⟨_, ho, rfl⟩ ⟨_, ho2, rfl⟩ noFill_tuple_add seq_tuple_add PySem.F.slot_tuple_add PySem.F.entry_tuple_add (PySem.F.args_tuple_add_2 _ _)
      (tuple_addW1 t b vs.toArray ws.toArray n n2 dd dd2 sl sl2 (by simpa using hv) (by simp [hw])) ⟨ho, ho2, h1 hw⟩
  · refine concat_meets ⟨_, ho, rfl⟩ ⟨_, ho2, rfl⟩ noFill_tuple_add seq_tuple_add PySem.F.slot_tuple_add PySem.F.entry_tuple_add (PySem.F.args_tuple_add_2 _ _)
      (tuple_addW2 t b vs.toArray ws.toArray n n2 dd dd2 sl sl2 (by simpa using hv) (by simpa using hw) (by rw [List.size_toArray, List.size_toArray]; exact hsz)) ⟨ho, ho2, ?_⟩
    rw [e]
    exact h2 hw
def sIx (n d : Nat) : Option Int → Nat
  | none => d
  | some v => if v < 0 then (v + (n : Int)).toNat else min v.toNat n
theorem sIx_none (n d : Nat) : sIx n d none = d := rfl
theorem sIx_nat (n d k : Nat) : sIx n d (some (k : Int)) = min k n := by
  show (if (k : Int) < 0 then ((k : Int) + (n : Int)).toNat else min (k : Int).toNat n) = min k n
  rw [if_neg (by omega), Int.toNat_natCast]
theorem sIx_le (n d : Nat) (hd : d ≤ n) (o : Option Int) : sIx n d o ≤ n := by
  cases o with
  | none => exact hd
  | some v =>
    show (if v < 0 then (v + (n : Int)).toNat else min v.toNat n) ≤ n
    by_cases hv : v < 0
    · rw [if_pos hv]; omega
    · rw [if_neg hv]; exact Nat.min_le_right _ _
theorem clip_eq (v : Int) (n d : Nat) : (if v < 0 then max (v + (n : Int)) 0 else min v (n : Int)) = ((sIx n d (some v) : Nat) : Int) := by
  show (if v < 0 then max (v + (n : Int)) 0 else min v (n : Int)) = (((if v < 0 then (v + (n : Int)).toNat else min v.toNat n) : Nat) : Int)
  by_cases hv : v < 0
  · simp only [if_pos hv]; omega
  · simp only [if_neg hv]; omega
theorem adjust_gen (lo hi : Option Int) (n : Nat) : Builtin.Slice.sliceAdjust lo hi 1 (n : Int) = (((sIx n 0 lo : Nat) : Int), ((sIx n n hi : Nat) : Int)) := by
  have h1 : ¬ ((1 : Int) < 0) := by omega
  unfold Builtin.Slice.sliceAdjust
  simp only [h1, if_false]
  refine Prod.ext ?_ ?_
  · cases lo with
    | none => rfl
    | some v => exact clip_eq v n 0
  · cases hi with
    | none => rfl
    | some v => exact clip_eq v n n
theorem places_gen (i j : Nat) : Builtin.Slice.slicePlaces (i : Int) (j : Int) 1 = j - i := by
  unfold Builtin.Slice.slicePlaces
  have h1 : (1 : Int) > 0 := by omega
  simp only [h1, if_true, Int.ediv_one]
  split <;> omega
theorem slicePart_ {v : Value} {o : Option Int} {Q : Option Int → Shared → Prop} (p : IsPart v o) (h : Q o s) : wpAny (model prog w) A (Builtin.Slice.slicePartIndex v) Q E s := by
  cases p with
  | none => exact slicePart_none h
  | int i t => exact slicePart_int h
theorem sliceApplied_gen {sl : Addr} {vl vu : Value} {lo hi : Option Int} {n : Nat} {Q : Int × Int × Nat → Shared → Prop} (hs : s.heap.IsSliceOf sl vl vu .none) (pl : IsPart vl lo) (pu : IsPart vu hi)
    (h : Q (((sIx n 0 lo : Nat) : Int), 1, sIx n n hi - sIx n 0 lo) s) : wpAny (model prog w) A (Builtin.Slice.sliceApplied (.ref sl) (pure (n : Int))) Q E s := by
  obtain ⟨os, hos, hcs, hds⟩ := id hs
  unfold Builtin.Slice.sliceApplied Builtin.Slice.sliceFields
  refine wpAny_bind (wpAny_bind (wpAny_field hos hds (x := vl) rfl (wpAny_bind (wpAny_field hos hds (x := vu) rfl (wpAny_bind (wpAny_field hos hds (x := .none) rfl (wpAny_pure ?_)))))))
  refine wpAny_bind (slicePart_none ?_)
  show wpAny _ _ (if ((1 : Int) == 0) = true then _ else _) _ _ s
  rw [if_neg (by decide)]
  refine wpAny_bind (slicePart_ pl (wpAny_bind (slicePart_ pu (wpAny_bind (wpAny_pure ?_)))))
  show wpAny _ _ (match Builtin.Slice.sliceAdjust lo hi 1 (n : Int) with | (lo, hi) => pure (lo, (1 : Int), Builtin.Slice.slicePlaces lo hi 1)) _ _ s
  rw [adjust_gen lo hi n]
  show wpAny _ _ (pure (((sIx n 0 lo : Nat) : Int), (1 : Int), Builtin.Slice.slicePlaces ((sIx n 0 lo : Nat) : Int) ((sIx n n hi : Nat) : Int) 1)) _ _ s
  rw [places_gen]
  exact wpAny_pure h
theorem pick_gen (xs : Array Value) (i k : Nat) : ((List.range k).filterMap fun (m : Nat) => xs[((i : Int) + (m : Int) * 1).toNat]?).toArray = ((xs.toList.drop i).take k).toArray := by
  have e : (fun (m : Nat) => xs[((i : Int) + (m : Int) * 1).toNat]?) = fun m => xs[i + m]? := by
    funext m
    have : ((i : Int) + (m : Int) * 1).toNat = i + m := by omega
    rw [this]
  rw [e]
  have := pick_run xs i k
  rw [List.filterMap_map] at this
  have e2 : ((fun x => xs[x]?) ∘ fun x => i + x) = fun m => xs[i + m]? := rfl
  rw [e2] at this
  rw [this]
theorem getItem_tuple_cut {t sl : Addr} {items : Array Value} {vl vu : Value} {lo hi : Option Int} {Q : Value → Shared → Prop} (ht : IsTup s.heap t items) (hs : s.heap.IsSliceOf sl vl vu .none) (pl : IsPart vl lo) (pu : IsPart vu hi)
    (hw : ¬ (sIx items.size 0 lo = 0 ∧ sIx items.size items.size hi = items.size))
    (h : Q (.ref s.heap.objs.size) { s with heap := s.heap.push { cls := .type "tuple", data := .seq ((items.toList.drop (sIx items.size 0 lo)).take (sIx items.size items.size hi - sIx items.size 0 lo)).toArray } })
    (hsz : items.size ≤ sizeLine) : wpAny (model prog w) A (getItem (.ref t) (.ref sl)) Q E s := by
  have htake : sizeOk (.seq ((items.toList.drop (sIx items.size 0 lo)).take (sIx items.size items.size hi - sIx items.size 0 lo)).toArray) := by
    show ((items.toList.drop (sIx items.size 0 lo)).take (sIx items.size items.size hi - sIx items.size 0 lo)).toArray.size ≤ sizeLine
    rw [List.size_toArray, List.length_take, List.length_drop, Array.length_toList]
    omega
  have hj : sIx items.size items.size hi ≤ items.size := sIx_le _ _ (Nat.le_refl _) hi
  obtain ⟨os, hos, hcs, hds⟩ := id hs
  have hTs : s.TypeIs (.ref sl) "slice" := ⟨os, hos, hcs⟩
  unfold getItem
  try with_reducible refine wpAny_holding ?_
  first | refine wpAny_bind (wpAny_pure ?_) | skip
  refine wpAny_bind (wpAny_sequenceKey ht.typeIs (by decide) ?_)
  refine wpAny_bind (wpAny_callSpecial?_slot (name := Str.ofString "__getitem__") ht.typeIs PyProof.Rows.slot_tuple_getitem
    (wpAny_call_entry PyProof.Rows.slot_tuple_getitem ht.typeIs entry_tuple_getitem ?_ (args_tuple_getitem _ _)))
  show wpAny _ _ (Builtin.Tuple.tupleItemsOf (.ref t) >>= _) _ _ s
  refine wpAny_bind (tupleItemsOf_ ht ?_)
  refine wpAny_bind (wpAny_typeOf hTs ?_)
  rw [if_pos (by decide)]
  refine wpAny_bind (sliceApplied_gen hs pl pu ?_)
  have hno : ¬ ((((sIx items.size 0 lo : Nat) : Int) == 0 && (1 : Int) == 1 && (sIx items.size items.size hi - sIx items.size 0 lo) == items.size) = true) := by
    intro q
    rw [Bool.and_eq_true, Bool.and_eq_true] at q
    have q1 : ((sIx items.size 0 lo : Nat) : Int) = 0 := eq_of_beq q.1.1
    have q2 : sIx items.size items.size hi - sIx items.size 0 lo = items.size := eq_of_beq q.2
    exact hw ⟨by omega, by omega⟩
  show wpAny _ _ (if (((sIx items.size 0 lo : Nat) : Int) == 0 && (1 : Int) == 1 && (sIx items.size items.size hi - sIx items.size 0 lo) == items.size) = true then _ else _) _ _ s
  rw [if_neg hno, pick_gen]
  first
    | exact wpAny_bind (m := Builtin.Tuple.tupleExact _) (wpAny_newObj_type (wpAny_pure ⟨_, rfl, wpAny_pure h⟩) htake)
    | exact wpAny_bind (m := Builtin.Tuple.tupleExact _) (wpAny_newObj_type (wpAny_bind (wpAny_pure (wpAny_pure ⟨_, rfl, wpAny_pure h⟩))) htake)
    | exact wpAny_bind (wpAny_bind (m := Builtin.Tuple.tupleExact _) (wpAny_newObj_type (wpAny_pure (wpAny_pure ⟨_, rfl, wpAny_pure h⟩)) htake))
    | exact wpAny_bind (wpAny_bind (m := Builtin.Tuple.tupleExact _) (wpAny_newObj_type (wpAny_pure ⟨_, rfl, wpAny_pure h⟩) htake))
end
end HT
namespace L2
open PySem PySem.Spec PyProof.Rows
abbrev TO := St → Hp → (Option Int → Hp → Prop) → Prop
def PO (X : Cx) (e : Option Expr) (t : TO) : Prop :=
  ∀ (pins : List (Addr × Obj)) (s : Shared) (σ : St) (H : Hp) (Q : Option Int → Hp → Prop), Inv X pins σ H s → t σ H Q →
    wpAny (model X.prog X.w) X.A (evalPart e X.env) (fun u s' => ∃ o H', Inv X pins σ H' s' ∧ IsPart u o ∧ Q o H') X.xe s
def tNoPart : TO := fun _ H Q => Q none H
def tPart (t : TE) : TO := fun σ H Q => t σ H fun x H1 => ∃ i, x = .int i ∧ Q (some i) H1
section
variable {X : Cx} {e : Expr} {te : TE} {lo hi : Option Expr} {tl th : TO} {pos p2 : Pos}
theorem po_none : PO X none tNoPart := by
  intro pins s σ H Q I h
  rw [evalPart_none]
  exact wpAny_pure ⟨none, H, I, .none, h⟩
theorem po_some (h : PE X e te) : PO X (some e) (tPart te) := by
  intro pins s σ H Q I hw
  rw [evalPart_some]
  refine thn (h pins s σ H _ I hw) fun u s1 ⟨x, H1, I1, r1, q1⟩ => ?_
  obtain ⟨i, rfl, q⟩ := q1
  obtain ⟨t, rfl⟩ := r1
  exact ⟨some i, H1, I1, .int i t, q⟩
def SlR (X : Cx) (r : V → Option Int → Option Int → Hp → VK → Prop) : Prop :=
  ∀ (pins : List (Addr × Obj)) (s : Shared) (σ : St) (H : Hp) (x : V) (v vl vu : Value) (lo hi : Option Int) (sl : Addr) (Q : VK), Inv X pins σ H s → RelV x v → s.heap.IsSliceOf sl vl vu .none → IsPart vl lo → IsPart vu hi → r x lo hi H Q →
    ∃ T id, typeLookup (.type T) "__getitem__" = pure (some (.builtin id)) ∧ s.TypeIs v T ∧ wpAny (model X.prog X.w) X.A (getItem v (.ref sl)) (EP X pins σ Q) X.xe s
def tSl (r : V → Option Int → Option Int → Hp → VK → Prop) (te : TE) (tl th : TO) : TE := fun σ H Q => te σ H fun x H1 => tl σ H1 fun l H2 => th σ H2 fun u H3 => r x l u H3 Q
theorem pe_slice {r : V → Option Int → Option Int → Hp → VK → Prop} (hr : SlR X r) (he : PE X e te) (hl : PO X lo tl) (hu : PO X hi th) : PE X (.Subscript e (.Slice lo hi none p2) pos) (tSl r te tl th) := by
  intro pins s σ H Q I h
  refine Subscript_ (thn (he pins s σ H _ I h) fun v s1 ⟨x, H1, I1, r1, q1⟩ => ?_)
  refine wpAny_Slice (thn (hl pins s1 σ H1 _ I1 q1) fun vl s2 ⟨l, H2, I2, pl, q2⟩ => thn (hu pins s2 σ H2 _ I2 q2) fun vu s3 ⟨u, H3, I3, pu, q3⟩ => ?_)
  rw [evalPart_none]
  refine wpAny_pure ?_
  have I4 : Inv X pins σ H3 { s3 with heap := s3.heap.push { cls := .type "slice", data := .fields #[vl, vu, .none] } } := I3.kept (t' := s3.toks) fun b ob q => Heap.get?_push_of_some _ q
  obtain ⟨T, id, hT, ht, hg⟩ := hr pins { s3 with heap := s3.heap.push { cls := .type "slice", data := .fields #[vl, vu, .none] } } σ H3 x v vl vu l u s3.heap.objs.size Q I4 r1 (Heap.IsSliceOf.new ..) pl pu q3
  show wpAny (model X.prog X.w) X.A (subscriptTail e (.Slice lo hi none p2) v (.ref s3.heap.objs.size)) (EP X pins σ Q) X.xe { s3 with heap := s3.heap.push { cls := .type "slice", data := .fields #[vl, vu, .none] } }
  exact tail_any (ops := [.ref s3.heap.objs.size, v]) ht hT hg (by with_unfolding_all rfl)
def cutV (xs : List V) (lo hi : Option Int) : List V := (xs.drop (HT.sIx xs.length 0 lo)).take (HT.sIx xs.length xs.length hi - HT.sIx xs.length 0 lo)
theorem cutV_length (xs : List V) (lo hi : Option Int) : (cutV xs lo hi).length ≤ xs.length := by
  unfold cutV
  rw [List.length_take, List.length_drop]
  omega
def rSlT (K : PySem.W.Frag) : V → Option Int → Option Int → Hp → VK → Prop := fun x lo hi H Q => ∃ a xs, x = .ref a ∧ SqT K H a xs ∧
  ¬ (HT.sIx xs.length 0 lo = 0 ∧ HT.sIx xs.length xs.length hi = xs.length) ∧ ∀ p, H p = none → Q (.ref p) (upd H p (.tup (cutV xs lo hi)))
theorem sl_tup : SlR X (rSlT X.K) := by
  intro pins s σ H x v vl vu lo hi sl Q I rx hs pl pu h
  obtain ⟨a, xs, rfl, hx, hw, q⟩ := h
  cases rx
  obtain ⟨its, r, ht, hz⟩ := I.tuple hx
  have hlen : its.toArray.size = xs.length := by rw [List.size_toArray]; exact r.length.symm
  refine ⟨"tuple", _, PyProof.Rows.slot_tuple_getitem.lookup, ht.typeIs, ?_⟩
  refine HT.getItem_tuple_cut ht hs pl pu (by rw [hlen]; exact hw) ?_ (by rw [hlen]; exact hz)
  rw [hlen]
  refine ⟨.ref s.heap.objs.size, _, I.laid (t' := s.toks) (o := .tup (cutV xs lo hi)) (fun b ob q => Heap.get?_push_of_some _ q) (Nat.le_refl _) ?_, rfl, q _ (I.hok.fresh (Nat.le_refl _))⟩
  exact ⟨Nat.le_trans (cutV_length xs lo hi) hz, _, (r.drop (HT.sIx xs.length 0 lo)).take (HT.sIx xs.length xs.length hi - HT.sIx xs.length 0 lo), IsTup.new _ _⟩
def rCatT (K : PySem.W.Frag) : R2 := fun x y H Q => ∃ a b xs ys, x = .ref a ∧ y = .ref b ∧ SqT K H a xs ∧ SqT K H b ys ∧ xs ≠ [] ∧ xs.length + ys.length ≤ sizeLine ∧
  (ys = [] → Q (.ref a) H) ∧ (ys ≠ [] → ∀ p, H p = none → Q (.ref p) (upd H p (.tup (xs ++ ys))))
theorem Vals.nil_iff {xs : List V} {us : List Value} (r : Vals xs us) : us = [] ↔ xs = [] := by
  cases r with
  | nil => simp
  | cons _ _ => simp
theorem op_catT : OpR X (binaryOp .Add) (rCatT X.K) := by
  intro pins s σ H x y v u Q I rx ry h
  obtain ⟨a, b, xs, ys, rfl, rfl, ha, hb, hx, hz, q1, q2⟩ := h
  cases rx
  cases ry
  obtain ⟨its, r1, p1, _⟩ := I.tuple ha
  obtain ⟨its2, r2, p2, _⟩ := I.tuple hb
  refine HT.cat_tup p1 p2 (fun z => hx (r1.nil_iff.mp z)) (fun z => ⟨.ref a, H, I, rfl, q1 (r2.nil_iff.mp z)⟩) (fun z => ?_) (by rw [← r1.length, ← r2.length]; exact hz)
  refine ⟨.ref s.heap.objs.size, _, I.laid (t' := s.toks) (o := .tup (xs ++ ys)) (fun b ob q => Heap.get?_push_of_some _ q) (Nat.le_refl _) ?_, rfl, q2 (fun w => z (r2.nil_iff.mpr w)) _ (I.hok.fresh (Nat.le_refl _))⟩
  exact ⟨by rw [List.length_append]; exact hz, _, r1.append r2, IsTup.new _ _⟩
end
end L2
namespace L2
open PySem PySem.Spec PyProof.Rows
def ixN (n : Nat) (i : Int) : Option Nat := if 0 ≤ i then (if i < n then some i.toNat else none) else if -(n : Int) ≤ i then some (i + n).toNat else none
def atI {α : Type} (xs : List α) (i : Int) : Option α := (ixN xs.length i).bind fun j => xs[j]?
theorem ixN_seq {n : Nat} {i : Int} {j : Nat} (h : ixN n i = some j) : seqIndex? i n = some j ∧ j < n ∧ -(n : Int) ≤ i ∧ i < n := by
  unfold ixN at h
  by_cases h0 : 0 ≤ i
  · rw [if_pos h0] at h
    by_cases h1 : i < n
    · rw [if_pos h1] at h
      have e : i.toNat = j := Option.some.inj h
      exact ⟨by rw [seqIndex_of h0 h1, e], by omega, by omega, h1⟩
    · rw [if_neg h1] at h; cases h
  · rw [if_neg h0] at h
    by_cases h1 : -(n : Int) ≤ i
    · rw [if_pos h1] at h
      have e : (i + n).toNat = j := Option.some.inj h
      exact ⟨by rw [seqIndex_neg (by omega) h1, e], by omega, h1, by omega⟩
    · rw [if_neg h1] at h; cases h
theorem atI_get {α : Type} {xs : List α} {i : Int} {v : α} (h : atI xs i = some v) : ∃ j, seqIndex? i xs.length = some j ∧ xs[j]? = some v ∧ j < xs.length ∧ -(xs.length : Int) ≤ i ∧ i < xs.length := by
  unfold atI at h
  cases e : ixN xs.length i with
  | none => rw [e] at h; cases h
  | some j =>
    rw [e] at h
    obtain ⟨h1, h2, h3, h4⟩ := ixN_seq e
    exact ⟨j, h1, h, h2, h3, h4⟩
def PlainIx (b : Expr) : Prop := ∀ o i, subscripted b false o i = operate [o, i] (getItem o i)
def IxR (X : Cx) (r : R2) : Prop :=
  ∀ (value slice : Expr) (pins : List (Addr × Obj)) (s : Shared) (σ : St) (H : Hp) (x y : V) (v u : Value) (Q : VK), Inv X pins σ H s → RelV x v → RelV y u → r x y H Q →
    subscripted slice false v u = operate [v, u] (getItem v u) → wpAny (model X.prog X.w) X.A (subscriptTail value slice v u) (EP X pins σ Q) X.xe s
def MtR (X : Cx) (id : String) (r : V → List V → Hp → VK → Prop) : Prop :=
  ∀ (pins : List (Addr × Obj)) (s : Shared) (σ : St) (H : Hp) (x : V) (xs : List V) (v : Value) (us : List Value) (Q : VK), Inv X pins σ H s → RelV x v → Vals xs us → r x xs H Q →
    wpAny (model X.prog X.w) X.A (call (.builtin id) (v :: us)) (EP X pins σ Q) X.xe s
section
variable {X : Cx} {a b : Expr} {ta tb : TE} {pos : Pos}
theorem pe_ix {r : R2} (hr : IxR X r) (ha : PE X a ta) (hb : PE X b tb) (hs : PlainIx b) : PE X (.Subscript a b pos) (tOp r ta tb) := by
  intro pins s σ H Q I h
  exact Subscript_ (binT ha hb I h fun v u s2 x y H2 I2 rx ry q => hr a b pins s2 σ H2 x y v u Q I2 rx ry q (hs _ _))
def rIxL (K : PySem.W.Frag) : R2 := fun x y H Q => ∃ p xs i v, x = .ref p ∧ y = .int i ∧ SqL K H p xs ∧ atI xs i = some v ∧ Q v H
def rIxT (K : PySem.W.Frag) : R2 := fun x y H Q => ∃ p xs i v, x = .ref p ∧ y = .int i ∧ SqT K H p xs ∧ atI xs i = some v ∧ Q v H
def rIxS : R2 := fun x y H Q => ∃ z i c, x = .str z ∧ y = .int i ∧ z.length ≤ sizeLine ∧ atI z.cps.toList i = some c ∧ Q (.str ⟨#[c]⟩) H
theorem ix_list : IxR X (rIxL X.K) := by
  intro value slice pins s σ H x y v u Q I rx ry h hs
  obtain ⟨p, xs, i, z, rfl, rfl, hq, he, q⟩ := h
  cases rx
  obtain ⟨t, rfl⟩ := ry
  obtain ⟨its, r, pl, hz⟩ := I.list hq
  obtain ⟨j, h1, h2, h3, h4, h5⟩ := atI_get he
  obtain ⟨w, ew, rw'⟩ := r.get h2
  have hl := r.length
  have hn := line63
  have fin : EP X pins σ Q w s := ⟨z, H, I, rw', q⟩
  by_cases h0 : 0 ≤ i
  · have hj : i.toNat = j := by
      rw [seqIndex_of h0 h5] at h1
      exact Option.some.inj h1
    exact item_listR pl.isList h0 (by omega) (by rw [hj]; simpa using ew) fin hs
  · have hj : (i + (its.toArray.size : Int)).toNat = j := by
      rw [seqIndex_neg (by omega) h4] at h1
      rw [List.size_toArray, ← hl]
      exact Option.some.inj h1
    exact subscriptTail_builtinR (x := w) pl.isList.typeIs slot_list_getitem.lookup
      (wpAny_getItem_list_neg (Q := fun r s' => r = w ∧ EP X pins σ Q r s') pl.isList (by omega) (by rw [List.size_toArray] <;> omega) (by omega) (by rw [hj]; simpa using ew) ⟨rfl, fin⟩) hs
theorem ix_tup : IxR X (rIxT X.K) := by
  intro value slice pins s σ H x y v u Q I rx ry h hs
  obtain ⟨p, xs, i, z, rfl, rfl, hq, he, q⟩ := h
  cases rx
  obtain ⟨t, rfl⟩ := ry
  obtain ⟨its, r, pl, hz⟩ := I.tuple hq
  obtain ⟨j, h1, h2, h3, h4, h5⟩ := atI_get he
  obtain ⟨w, ew, rw'⟩ := r.get h2
  have hl := r.length
  have hn := line63
  have fin : EP X pins σ Q w s := ⟨z, H, I, rw', q⟩
  exact subscriptTail_builtinR (x := w) pl.typeIs slot_tuple_getitem.lookup
    (getItem_tuple (j := j) (Q := fun r s' => r = w ∧ EP X pins σ Q r s') pl (by omega) (by omega) (by rw [List.size_toArray, ← hl]; exact h1) (by simpa using ew) ⟨rfl, fin⟩) hs
theorem ix_str : IxR X rIxS := by
  intro value slice pins s σ H x y v u Q I rx ry h hs
  obtain ⟨z, i, c, rfl, rfl, hz, he, q⟩ := h
  obtain ⟨t, rfl⟩ := rx
  obtain ⟨t', rfl⟩ := ry
  obtain ⟨j, h1, h2, h3, h4, h5⟩ := atI_get he
  have hl : z.cps.toList.length = z.length := by simp [Str.length]
  rw [hl] at h1 h4 h5
  have hn := line63
  exact tail_any (typeIs_str s z t) slot_str_getitem.lookup (getItem_str (c := c) (by
    have e1 : decide (i < -(2 ^ 63 : Int)) = false := decide_eq_false (by omega)
    have e2 : decide (i ≥ 2 ^ 63) = false := decide_eq_false (by omega)
    rw [e1, e2, Bool.or_false]) (by rw [h1]; simpa using h2) ⟨.str ⟨#[c]⟩, H, I.tok _, ⟨_, rfl⟩, q⟩) hs
theorem Inv.lst {pins : List (Addr × Obj)} {σ : St} {H : Hp} {s : Shared} {p : Addr} {xs : List V} (I : Inv X pins σ H s) (h : H p = some (.lst xs)) :
    ∃ (its : List Value) (n : Nat), Vals xs its ∧ s.heap.get? p = some { cls := .type "list", data := .seq its.toArray n } ∧ xs.length ≤ sizeLine := by
  obtain ⟨z, its, n, r, e⟩ := I.hok p _ h
  exact ⟨its, n, r, e, z⟩
theorem slice_bounds (lo hi : Option Int) (n : Nat) : (sliceBounds lo hi none n).1 = ((HT.sIx n 0 lo : Nat) : Int) ∧ (sliceBounds lo hi none n).2.1 = ((HT.sIx n n hi : Nat) : Int) ∧ (sliceBounds lo hi none n).2.2 = 1 := by
  refine ⟨?_, ?_, rfl⟩
  · cases lo with
    | none => simp [sliceBounds, HT.sIx]
    | some i =>
      simp only [sliceBounds, HT.sIx, Option.getD_none, show (1 : Int) > 0 by decide, if_true]
      by_cases h : i < 0
      · simp only [h, if_true] <;> omega
      · simp only [h, if_false] <;> omega
  · cases hi with
    | none => simp [sliceBounds, HT.sIx]
    | some i =>
      simp only [sliceBounds, HT.sIx, Option.getD_none, show (1 : Int) > 0 by decide, if_true]
      by_cases h : i < 0
      · simp only [h, if_true] <;> omega
      · simp only [h, if_false] <;> omega
theorem slicePick_cut (its : List Value) (lo hi : Option Int) : slicePick its.toArray lo hi none = ((its.drop (HT.sIx its.length 0 lo)).take (HT.sIx its.length its.length hi - HT.sIx its.length 0 lo)).toArray := by
  obtain ⟨h1, h2, h3⟩ := slice_bounds lo hi its.toArray.size
  unfold slicePick
  rw [h1, h2, h3]
  simp only [sliceRange_one, pick_run, List.size_toArray] <;> rfl
def rSlL (K : PySem.W.Frag) : V → Option Int → Option Int → Hp → VK → Prop := fun x lo hi H Q => ∃ a xs, x = .ref a ∧ SqL K H a xs ∧ ∀ p, H p = none → Q (.ref p) (upd H p (.lst (cutV xs lo hi)))
theorem sl_list : SlR X (rSlL X.K) := by
  intro pins s σ H x v vl vu lo hi sl Q I rx hs pl pu h
  obtain ⟨a, xs, rfl, hx, q⟩ := h
  cases rx
  obtain ⟨its, r, ht, hz⟩ := I.list hx
  have hlen := r.length
  refine ⟨"list", _, slot_list_getitem.lookup, ht.isList.typeIs, ?_⟩
  refine wpAny_getItem_list_slice ht.isList hs pl pu .none (by simp) ?_ (by rw [List.size_toArray] <;> omega)
  rw [slicePick_cut, ← hlen]
  refine ⟨.ref s.heap.objs.size, _, I.laid (t' := s.toks) (o := .lst (cutV xs lo hi)) (fun b ob q => Heap.get?_push_of_some _ q) (Nat.le_refl _) ?_, rfl, q _ (I.hok.fresh (Nat.le_refl _))⟩
  exact ⟨Nat.le_trans (cutV_length xs lo hi) hz, _, 0, (r.drop (HT.sIx xs.length 0 lo)).take (HT.sIx xs.length xs.length hi - HT.sIx xs.length 0 lo), Heap.get?_push_size _ rfl⟩
def flatV : V → Bool
  | .non => true
  | .bl _ => true
  | .int _ => true
  | .str _ => true
  | _ => false
def eqV : V → V → Bool
  | .non, .non => true
  | .bl a, .bl b => a == b
  | .bl a, .int b => (if a then 1 else 0) == b
  | .int a, .bl b => a == (if b then 1 else 0)
  | .int a, .int b => a == b
  | .str a, .str b => a == b
  | _, _ => false
theorem eqAt_V {A : Around} {s : Shared} {y x : V} {u v : Value} (ry : RelV y u) (rx : RelV x v) (fy : flatV y = true) (fx : flatV x = true) : SeqAt.EqAt A s u v (eqV y x) := by
  cases y with
  | non =>
    cases ry
    cases x with
    | non => cases rx; exact SeqAt.EqAt.same _
    | bl b => cases rx; exact SeqAt.EqAt.none_bool b
    | int b => obtain ⟨t, rfl⟩ := rx; exact SeqAt.EqAt.none_int b t
    | str b => obtain ⟨t, rfl⟩ := rx; exact SeqAt.EqAt.none_str b t
    | _ => exact absurd (show false = true from fx) Bool.false_ne_true
  | bl a =>
    cases ry
    cases x with
    | non => cases rx; exact SeqAt.EqAt.bool_none a
    | bl b => cases rx; exact SeqAt.EqAt.bool_bool a b
    | int b => obtain ⟨t, rfl⟩ := rx; exact SeqAt.EqAt.bool_int a b t
    | str b => obtain ⟨t, rfl⟩ := rx; exact SeqAt.EqAt.bool_str a b t
    | _ => exact absurd (show false = true from fx) Bool.false_ne_true
  | int a =>
    obtain ⟨t', rfl⟩ := ry
    cases x with
    | non => cases rx; exact SeqAt.EqAt.int_none a t'
    | bl b => cases rx; exact SeqAt.EqAt.int_bool a t' b
    | int b => obtain ⟨t, rfl⟩ := rx; exact SeqAt.EqAt.int_int a t' b t
    | str b => obtain ⟨t, rfl⟩ := rx; exact SeqAt.EqAt.int_str a t' b t
    | _ => exact absurd (show false = true from fx) Bool.false_ne_true
  | str a =>
    obtain ⟨t', rfl⟩ := ry
    cases x with
    | non => cases rx; exact SeqAt.EqAt.str_none a t'
    | bl b => cases rx; exact SeqAt.EqAt.str_bool a t' b
    | int b => obtain ⟨t, rfl⟩ := rx; exact SeqAt.EqAt.str_int a t' b t
    | str b => obtain ⟨t, rfl⟩ := rx; exact SeqAt.EqAt.str_str a t' b t
    | _ => exact absurd (show false = true from fx) Bool.false_ne_true
  | _ => exact absurd (show false = true from fy) Bool.false_ne_true
def eqU (x : V) (u : Value) : Bool := match u with
  | .none => eqV .non x
  | .bool b => eqV (.bl b) x
  | .int i _ => eqV (.int i) x
  | .str z _ => eqV (.str z) x
  | _ => false
theorem eqU_of {x y : V} {u : Value} (r : RelV y u) (f : flatV y = true) : eqU x u = eqV y x := by
  cases y with
  | non => cases r; rfl
  | bl b => cases r; rfl
  | int i => obtain ⟨t, rfl⟩ := r; rfl
  | str z => obtain ⟨t, rfl⟩ := r; rfl
  | _ => exact absurd (show false = true from f) Bool.false_ne_true
theorem any_eqU {x : V} : ∀ {xs : List V} {us : List Value}, Vals xs us → xs.all flatV = true → us.any (eqU x) = xs.any fun y => eqV y x
  | _, _, .nil, _ => rfl
  | y :: xs, u :: us, .cons r t, f => by
    rw [List.all_cons, Bool.and_eq_true] at f
    rw [List.any_cons, List.any_cons, eqU_of r f.1, any_eqU t f.2]
theorem mem_eqAt {A : Around} {s : Shared} {x : V} {v : Value} (rx : RelV x v) (fx : flatV x = true) : ∀ {xs : List V} {us : List Value}, Vals xs us → xs.all flatV = true → ∀ u ∈ us, SeqAt.EqAt A s u v (eqU x u)
  | _, _, .nil, _ => fun u hu => by cases hu
  | y :: xs, u :: us, .cons r t, f => fun u' hu => by
    rw [List.all_cons, Bool.and_eq_true] at f
    rcases List.mem_cons.mp hu with rfl | hu
    · rw [eqU_of r f.1]; exact eqAt_V r rx f.1 fx
    · exact mem_eqAt rx fx t f.2 u' hu
def inV (x : V) (xs : List V) : Bool := xs.any fun y => eqV y x
def rIn (K : PySem.W.Frag) (neg : Bool) : R2 := fun x y H Q => ∃ p xs, y = .ref p ∧ (SqL K H p xs ∨ SqT K H p xs) ∧ flatV x = true ∧ xs.all flatV = true ∧ Q (.bl (if neg then !inV x xs else inV x xs)) H
theorem op_notIn_seq : OpR X (compareOp .NotIn) (rIn X.K true) := by
  intro pins s σ H x y v u Q I rx ry h
  obtain ⟨p, xs, rfl, hq, fx, fs, q⟩ := h
  cases ry
  rcases hq with hq | hq
  · obtain ⟨its, r, pl, hz⟩ := I.list hq
    refine SeqAt.notIn_listAt (eqU x) pl.isList (fun w hw => mem_eqAt rx fx r fs w (by simpa using hw)) ⟨.bl _, H, I, rfl, ?_⟩
    rw [show its.toArray.any (eqU x) = its.any (eqU x) by simp, any_eqU r fs]
    exact q
  · obtain ⟨its, r, pl, hz⟩ := I.tuple hq
    refine SeqAt.notIn_tupleAt (eqU x) pl (fun w hw => mem_eqAt rx fx r fs w (by simpa using hw)) ⟨.bl _, H, I, rfl, ?_⟩
    rw [show its.toArray.any (eqU x) = its.any (eqU x) by simp, any_eqU r fs]
    exact q
def tyV (K : PySem.W.Frag) (T : String) (x : V) (H : Hp) : Prop := match x with
  | .str _ => T = "str"
  | .int _ => T = "int"
  | .ref p => (T = "list" ∧ ∃ xs, SqL K H p xs) ∨ (T = "tuple" ∧ ∃ o, K.lookup p = some o ∧ o.cls = .type "tuple" ∧ o.dict = none) ∨
      (T = "dict" ∧ ((∃ kvs, H p = some (.dK kvs)) ∨ ∃ kvs, H p = some (.dT kvs))) ∨ (T = "set" ∧ ∃ S n, H p = some (.set S n))
  | _ => False
theorem tyV_is {pins : List (Addr × Obj)} {σ : St} {H : Hp} {s : Shared} {T : String} {x : V} {v : Value} (I : Inv X pins σ H s) (r : RelV x v) (ty : tyV X.K T x H) :
    s.TypeIs v T ∧ ∀ a, v = .ref a → ∃ ob, s.heap.get? a = some ob ∧ ob.dict = none := by
  cases x with
  | str z =>
    obtain ⟨t, rfl⟩ := r
    cases (show T = "str" from ty)
    exact ⟨typeIs_str s z t, fun _ e => nomatch e⟩
  | int i =>
    obtain ⟨t, rfl⟩ := r
    cases (show T = "int" from ty)
    exact ⟨typeIs_int s i t, fun _ e => nomatch e⟩
  | ref p =>
    cases r
    rcases ty with ⟨rfl, xs, hq⟩ | ⟨rfl, o, hk, hc, hd⟩ | ⟨rfl, hk⟩ | ⟨rfl, S, n, hk⟩
    · obtain ⟨its, _, pl, _⟩ := I.list hq
      refine ⟨pl.isList.typeIs, fun a e => ?_⟩
      cases e
      obtain ⟨o, n, e, c, hd, _⟩ := pl
      exact ⟨o, e, hd⟩
    · refine ⟨⟨o, I.kIn p o hk, hc⟩, fun a e => ?_⟩
      cases e
      exact ⟨o, I.kIn _ o hk, hd⟩
    · have z : ∃ o, s.heap.get? p = some o ∧ o.ExactDict := by
        rcases hk with ⟨kvs, hk⟩ | ⟨kvs, hk⟩
        · obtain ⟨_, _, _, _, o, _, _, e, ex, _⟩ := I.hok p _ hk
          exact ⟨o, e, ex⟩
        · obtain ⟨_, _, _, _, o, _, _, e, ex, _⟩ := I.hok p _ hk
          exact ⟨o, e, ex⟩
      obtain ⟨o, e, ex⟩ := z
      refine ⟨⟨o, e, ex.1⟩, fun a e2 => ?_⟩
      cases e2
      exact ⟨o, e, ex.2.1⟩
    · obtain ⟨o, _, _, _, e, ex, _⟩ := I.hok p _ hk
      refine ⟨⟨o, e, ex.1⟩, fun a e2 => ?_⟩
      cases e2
      exact ⟨o, e, ex.2.1⟩
  | _ => exact False.elim ty
def tBM (K : PySem.W.Frag) (T : String) (r : V → List V → Hp → VK → Prop) (to : TE) (t : TA) : TE := fun σ H Q => to σ H fun x H1 => tyV K T x H1 ∧ t σ H1 fun xs H2 => r x xs H2 Q
variable {o e : Expr} {es : List Expr} {to : TE} {t : TA} {name : Str} {apos cpos : Pos} {T id : String} {r : V → List V → Hp → VK → Prop}
theorem pe_bm (pa : PlainAttrs T) (slot : Slot T name id) (hty : typeOf (.builtin id) = pure (.type "method_descriptor")) (hm : MtR X id r) (ho : PE X o to) (ha : PA X (e :: es) t)
    (hbase : attributeBase o name X.env (eval o X.env) = eval o X.env := by rfl)
    (hfew : ((backTo cpos (starEach (e :: es) X.env)).all (fun x => !x.1) && (backToKw cpos (keywordEach [] X.env)).all (fun x => x.1.isSome)
      && decide ((e :: es).length + ([] : List Keyword).length + (if ([] : List Keyword).isEmpty then 0 else 1) < 30)) = true := by rfl)
    (hline : (apos.endLine == cpos.line) = true := by rfl) (hs : starEach (e :: es) X.env = (false, eval e X.env) :: starEach es X.env := by rfl) (hplain : (backTo cpos (starEach es X.env)).any (·.1) = false := by rfl) :
    PE X (.Call (.Attribute o name apos) (e :: es) [] cpos) (tBM X.K T r to t) := by
  intro pins s σ H Q I h
  refine wpAny_Call_method_late hbase hfew hline rfl (thn (ho pins s σ H _ I h) fun v s1 ⟨x, H1, I1, r1, ty, q1⟩ => ?_)
  obtain ⟨h1, h2⟩ := tyV_is I1 r1 ty
  refine ⟨T, id, pa, slot, hty, h1, h2, ?_⟩
  have hA := ha cpos pins s1 σ H1 _ I1 q1
  rw [hs] at hA ⊢
  refine Calls.callWith_builtin (by show (false || (backTo cpos (starEach es X.env)).any (·.1)) = false; rw [hplain] <;> rfl) (Calls.evalArgs_plain ?_)
  exact thn hA fun us s2 ⟨vs, H2, I2, r2, q2⟩ => hm pins s2 σ H2 x vs v us Q I2 r1 r2 q2
/- xs.append(e), list.index on a module's tuple .. are MtR facts of 06m -/
end
end L2
namespace L2
open PySem PySem.Spec PyProof.Rows
def MtM (X : Cx) (id : String) (r : V → List V → Hp → VK → Prop) : Prop :=
  ∀ (pins : List (Addr × Obj)) (s : Shared) (σ : St) (H : Hp) (x : V) (xs : List V) (v : Value) (us : List Value) (Q : VK), Inv X pins σ H s → RelV x v → Vals xs us → r x xs H Q →
    wpAny (model X.prog X.w) X.A (call (.builtin id) (v :: us)) (EP X pins σ Q) X.xe s
theorem Vals.one : ∀ {x : V} {us : List Value}, Vals [x] us → ∃ u, us = [u] ∧ RelV x u
  | _, _, .cons r .nil => ⟨_, rfl, r⟩
theorem Vals.zero : ∀ {us : List Value}, Vals [] us → us = []
  | _, .nil => rfl
theorem Vals.rep {xs : List V} {us : List Value} (h : Vals xs us) : ∀ k : Nat, Vals (List.replicate k xs).flatten (List.replicate k us).flatten
  | 0 => .nil
  | k + 1 => by
    rw [List.replicate_succ, List.replicate_succ, List.flatten_cons, List.flatten_cons]
    exact Vals.append h (Vals.rep h k)
theorem foldl_rep (its : List Value) : ∀ (k : Nat) (acc : List Value),
    List.foldl (fun x1 x2 => x1 ++ x2) acc.toArray (List.replicate k its.toArray) = (acc ++ (List.replicate k its).flatten).toArray
  | 0, acc => by simp
  | k + 1, acc => by
    have e : acc.toArray ++ its.toArray = (acc ++ its).toArray := by simp
    have e2 : (acc ++ its) ++ (List.replicate k its).flatten = acc ++ (List.replicate (k + 1) its).flatten := by
      rw [List.replicate_succ, List.flatten_cons, List.append_assoc]
    rw [← e2, ← foldl_rep its k (acc ++ its), ← e, List.replicate_succ, List.foldl_cons]
section
variable {X : Cx} {pins : List (Addr × Obj)} {σ : St} {H : Hp} {s : Shared} {l b : Addr} {xs ys zs : List V}
theorem Inv.lset {its its' : List Value} {n : Nat} {f : Array Value → Array Value} {t' : Nat} (I : Inv X pins σ H s) (hH : H l = some (.lst xs))
    (e : s.heap.get? l = some { cls := .type "list", data := .seq its.toArray n }) (hf : f its.toArray = its'.toArray) (hv : Vals ys its') (hz : ys.length ≤ sizeLine) :
    Inv X pins σ (upd H l (.lst ys)) { s with heap := s.heap.update l (Obj.mapSeq f), toks := t' } := by
  have q := PySem.IsL.update e f
  rw [hf] at q
  refine I.write (x := l) (e := l) (by rw [hH]; exact trivial) (.inl rfl) (fun b' u hb hu => (Heap.get?_update_other s.heap (Obj.mapSeq f) (Ne.symm hb)).trans hu) ⟨_, q⟩ ?_
  exact ⟨hz, its', _, hv, q⟩
theorem Inv.lnew {its : List Value} {t' : Nat} (I : Inv X pins σ H s) (hv : Vals ys its) (hz : ys.length ≤ sizeLine) :
    Inv X pins σ (upd H s.heap.objs.size (.lst ys)) { s with heap := s.heap.push { cls := .type "list", data := .seq its.toArray }, toks := t' } :=
  I.laid (fun _ _ q => Heap.get?_push_of_some _ q) (Nat.le_refl _) ⟨hz, its, 0, hv, Heap.get?_push_size _ rfl⟩
theorem Inv.fresh (I : Inv X pins σ H s) : H s.heap.objs.size = none := I.hok.fresh (Nat.le_refl _)
theorem Inv.lstM (I : Inv X pins σ H s) (hH : H l = some (.lst xs)) : xs.length ≤ sizeLine ∧ ∃ (its : List Value) (n : Nat), Vals xs its ∧ xs.length = its.length ∧ s.heap.get? l = some { cls := .type "list", data := .seq its.toArray n } := by
  obtain ⟨z, its, n, r, e⟩ := I.hok l _ hH
  exact ⟨z, its, n, r, r.length, e⟩
theorem notLongL {n : Nat} (h : n ≤ sizeLine) : Builtin.List.listTooLong n = false := by
  unfold Builtin.List.listTooLong
  exact decide_eq_false (by omega)
end
section
variable {X : Cx}
def rAppend : V → List V → Hp → VK → Prop := fun x vs H Q => ∃ l xs y, x = .ref l ∧ vs = [y] ∧ H l = some (.lst xs) ∧ xs.length < sizeLine ∧ Q .non (upd H l (.lst (xs ++ [y])))
theorem mt_append : MtM X "list.append" rAppend := by
  intro pins s σ H x vs v us Q I rx rv h
  obtain ⟨l, xs, y, rfl, rfl, hH, hz, q⟩ := h
  cases rx
  obtain ⟨u, rfl, ru⟩ := rv.one
  obtain ⟨z, its, n, r, hl, e⟩ := I.lstM hH
  refine call_meets F.slot_list_append ⟨_, e, rfl⟩ F.entry_list_append (F.args_list_append_2 _ _) (PySem.list_append l its.toArray n u (by rw [List.size_toArray]; omega)) ⟨e, ?_⟩
  refine ⟨.non, _, I.lset (its' := its ++ [u]) hH e (by simp) (r.append (.cons ru .nil)) ?_, rfl, q⟩
  rw [List.length_append, List.length_singleton]
  omega
theorem len_rep {α : Type} (xs : List α) (k : Nat) : (List.replicate k xs).flatten.length = k * xs.length := by
  induction k with
  | zero => simp
  | succ k ih => rw [List.replicate_succ, List.flatten_cons, List.length_append, ih, Nat.succ_mul, Nat.add_comm]
end
section
variable {prog : Program} {w : World} {A : Around} {E : Value → Shared → Prop} {s : Shared}
theorem bounds_run {a c n : Nat} (hac : a ≤ c) (hc : c ≤ n) : sliceBounds (some (a : Int)) (some (c : Int)) none n = ((a : Int), (c : Int), 1) := by
  simp only [sliceBounds, Option.getD_none]
  have h1 : ¬ ((a : Int) < 0) := by omega
  have h2 : ¬ ((c : Int) < 0) := by omega
  simp only [h1, h2, if_false, show (1 : Int) > 0 by decide, if_true]
  congr 1
  · omega
  · congr 1; omega
set_option maxRecDepth 100000 in
theorem setItem_slice {l b sl : Addr} {items new : Array Value} {n n2 : Nat} {vl vu : Value} {a c : Nat} {Q : Unit → Shared → Prop}
    (e : s.heap.get? l = some { cls := .type "list", data := .seq items n }) (e2 : s.heap.get? b = some { cls := .type "list", data := .seq new n2 }) (hne : l ≠ b)
    (hs : s.heap.IsSliceOf sl vl vu .none) (pl : IsPart vl (some (a : Int))) (pu : IsPart vu (some (c : Int))) (hac : a ≤ c) (hc : c ≤ items.size)
    (hsz : items.size + new.size ≤ sizeLine) (h : Q () { s with heap := s.heap.update l (Obj.mapSeq fun xs => xs.extract 0 a ++ new ++ xs.extract c xs.size) }) :
    wpAny (model prog w) A (setItem (.ref l) (.ref sl) (.ref b)) Q E s := by
  have hl : s.heap.IsList l items := PySem.IsL.isList e
  have hb : s.heap.IsList b new := PySem.IsL.isList e2
  obtain ⟨os, hos, hcs, hds⟩ := id hs
  have hTs : s.TypeIs (.ref sl) "slice" := ⟨os, hos, hcs⟩
  have hstep : ¬ ((rawPart none == rawInt 0) = true) := Bool.false_ne_true
  have hsame : Builtin.List.listSameRef (.ref l) (.ref b) = false := by
    unfold Builtin.List.listSameRef
    exact beq_eq_false_iff_ne.mpr hne
  have hmax : (max (a : Int) (c : Int)).toNat = c := by omega
  have hz' : ((fun xs : Array Value => xs.extract 0 a ++ new ++ xs.extract c xs.size) items).size ≤ sizeLine + 1 := by
    simp only [Array.size_append, Array.size_extract]
    omega
  unfold setItem
  try with_reducible refine wpAny_holding ?_
  first | refine wpAny_bind (wpAny_pure ?_) | skip
  refine wpAny_bind (wpAny_sequenceKey hl.typeIs (by decide) ?_)
  refine wpAny_bind (wpAny_callSpecial?_slot (name := Str.ofString "__setitem__") hl.typeIs slot_list_setitem
    (wpAny_call_entry slot_list_setitem hl.typeIs entry_list_setitem ?_ (args_list_setitem _ _ _)))
  show wpAny _ _ (Builtin.List.listSubscript? (.ref sl) >>= _) _ _ s
  refine wpAny_bind ?_
  unfold Builtin.List.listSubscript?
  refine wpAny_bind (wpAny_specialOf hTs slice_no_index ?_)
  simp only [Option.isNone_none, if_true]
  refine wpAny_pure ?_
  show wpAny _ _ (typeOf (.ref sl) >>= _) _ _ s
  refine wpAny_bind (wpAny_typeOf hTs ?_)
  first
    | rw [if_neg (by decide)]
    | refine PySem.W.KFB.if_not (by decide) ?_
  rw [listSliceParts_eq]
  refine wpAny_bind (wpAny_bind (wpAny_field hos hds (x := .none) rfl (wpAny_bind (wpAny_listPart .none ?_))))
  rw [if_neg hstep]
  refine wpAny_bind (wpAny_field hos hds (x := vl) rfl (wpAny_bind (wpAny_listPart pl ?_)))
  refine wpAny_bind (wpAny_field hos hds (x := vu) rfl (wpAny_bind (wpAny_listPart pu (wpAny_pure ?_))))
  first
    | simp only [hsame, Bool.false_eq_true, if_false]
    | refine PySem.W.KFB.if_not hsame ?_
    | (dsimp only
       rw [if_neg (by rw [hsame]; exact Bool.false_ne_true)])
  refine wpAny_bind (m := Builtin.List.listAllItems (.ref b) "must assign iterable to extended slice") ?_
  unfold Builtin.List.listAllItems
  refine wpAny_bind (wpAny_typeOf hb.typeIs ?_)
  first
    | refine PySem.W.KFB.if_so (by decide) ?_
    | rw [if_pos (by decide)]
    | simp only [beq_self_eq_true, Bool.true_or, if_true]
  unfold Builtin.List.listItems
  refine wpAny_bind (wpAny_seqItems e2 rfl (wpAny_pure ?_))
  refine wpAny_bind (wpAny_bind (wpAny_seqItems e rfl (wpAny_pure ?_)))
  refine wpAny_bind (wpAny_of_eq ((sliceIndices_raw (some (a : Int)) (some (c : Int)) none items.size (by simp)).trans (congrArg (pure : Int × Int × Int → Sem (Int × Int × Int)) (bounds_run hac hc))) ?_)
  show wpAny _ _ (if ((1 : Int) == 1) = true then _ else _) _ _ s
  rw [if_pos (by decide)]
  refine wpAny_bind (wpAny_rule ?_)
  first
    | simp only [notLongL hsz, Bool.false_eq_true, if_false]
    | refine PySem.W.KFB.if_not (notLongL hsz) ?_
  first | refine wpAny_bind (wpAny_pure ?_) | skip
  show wpAny _ _ (updateSeq l (fun xs => xs.extract 0 ((a : Int)).toNat ++ new ++ xs.extract (max (a : Int) (c : Int)).toNat xs.size) >>= _) _ _ s
  rw [hmax, Int.toNat_natCast]
  refine wpAny_bind (wpAny_updateSeq (hz := Nat.le_trans (Nat.le_add_right _ _) hsz) (_hz' := hz') e rfl ?_)
  refine wpAny_bind (wpAny_letGo ?_)
  first
    | exact wpAny_bind (wpAny_pure (wpAny_pure ⟨.none, rfl, wpAny_pure h⟩))
    | exact wpAny_pure ⟨.none, rfl, wpAny_pure h⟩
end
section
variable {X : Cx}
end
end L2
namespace Att
open PySem PySem.W PySem.Calls PyProof.Rows
theorem ints_of_wellAll {P : Params} {h : Heap} : ∀ (ns : List Int) (vs : List Value), WellAll P h vs (ns.map WData.int) → IntsAre vs ns := by
  intro ns
  induction ns with
  | nil =>
    intro vs w
    rw [List.map_nil] at w
    cases w
    exact .nil
  | cons n ns ih =>
    intro vs w
    rw [List.map_cons] at w
    cases w with
    | cons a b =>
      cases a
      exact .cons _ _ (ih _ b)
theorem script_of {l : OpenLaw} {n : Nat} (hn : l.most = some n) {P : Params} {h : Heap} {args : List WData} {vals : List Value}
    (hpre : l.row.toRowW.claim.pre args = true) (hwl : WellAll P h vals args) :
    ∃ a vs ns, vals = [Value.ref a] ∧ args = [WData.list (ns.map WData.int)] ∧ h.get? a = some { cls := .type "list", data := .seq vs.toArray } ∧ IntsAre vs ns ∧ ns.length ≤ n := by
  have hsh : WShape.hasAll [] args [.list .int] = true := (pre_splitW hpre).1
  have hc : l.pre.holds [] { args := args } = true := (pre_splitW hpre).2
  obtain ⟨d, r, rfl, h1, h2⟩ := hasAllW_cons hsh
  obtain rfl := hasAllW_nil h2
  obtain ⟨xs, rfl, h3⟩ := hasW_list h1
  obtain ⟨ns, rfl⟩ := items_int h3
  have hlen : ns.length ≤ n := by
    unfold OpenLaw.pre at hc
    have h4 : (WTm.not (.lt (.lit (.int (n : Int))) (.len (.arg 0)))).holds [] { args := [.list (ns.map .int)] } = true := by
      have h4 := (holds_andW hc).1
      rw [hn] at h4
      exact h4
    have h5 := condW_of h4 (w_not (w_lt w_lit (w_len_list (w_arg rfl))))
    rw [List.length_map] at h5
    refine Nat.le_of_not_lt fun q => ?_
    have q' : (n : Int) < ((ns.length : Nat) : Int) := by omega
    first
      | (rw [decide_eq_true q'] at h5; exact absurd h5 (by decide))
      | (simp at h5; omega)
  cases hwl with
  | cons w1 w2 =>
    cases w2
    cases w1 with
    | list ho hall => exact ⟨_, _, ns, rfl, rfl, ho, ints_of_wellAll ns _ hall, hlen⟩
theorem post_true (l : OpenLaw) (args : List WData) : l.row.toRowW.claim.post args (.bool true) args = true :=
  postW_of (r := l.row.toRowW) (X := (true == true))
    (show WShape.has [] (.bool true) .bool = true by first | rfl | decide | simp [WShape.has, WShape.arms, WShape.armsAll])
    (show (WTm.eq .res (.lit (.bool true))).value [] { args := args, res := some (.bool true), after := args } = some (.bool (true == true)) from w_eq_bool (w_res rfl) w_lit) rfl
theorem attach_call {l : OpenLaw} {n : Nat} {q : Program} {loose : List Str} {XP : (Str → Option Value) → Heap → Prop} {YP : World → Heap → Prop} {d : DefRec}
    (hn : l.most = some n) (hdf : d.params.defaults = [])
    (call : ∀ (w : World) (s₀ s₁ : Shared) (mg mb : Str → Option Value) (fa : Addr) (o : Obj) (pm cd doc : Value) (a : Addr) (vs : List Value) (ns : List Int),
      Ground q loose [] XP w s₀ mg mb s₁.heap → YP w s₁.heap →
      s₁.heap.get? fa = some o → o.data = .func (docDef d.name d.params d.body d.scope pm cd doc) → s₁.heap.CodeRec cd d.name → mg d.name = some (.ref fa) →
      s₁.heap.get? a = some { cls := .type "list", data := .seq vs.toArray } → IntsAre vs ns → ns.length ≤ n → s₁.gens = #[] →
      codeAny (model l.prog w) callerA (.call (.ref fa) ⟨[.ref a], []⟩) (fun r s' => r = .ok (.ret (.bool true)) ∧ OldK s₁.heap s'.heap ∧ s'.os = s₁.os ∧ AllBare s'.gens) s₁) :
    WalkO q loose XP YP l.row.toRowW d [] (fun f vs => PySem.call f vs) := by
  intro w s₀ s₁ mg mb G Y fa o pm cd doc dV kV ho hd hcd hD hmg hg args vals as hpre hlay hrd hwl hlo
  obtain rfl : dV = .none := Dflts.none hD hdf
  obtain rfl : kV = .none := Dflts.noKw hD
  obtain ⟨a, vs, ns, rfl, rfl, hobj, hints, hlen⟩ := script_of hn hpre hwl
  refine enter_call (codeAny_mono (call w s₀ s₁ mg mb fa o pm cd doc a vs ns G Y ho (fd_plain hd) hcd hmg hobj hints hlen hg) fun r s' hq => ?_)
  obtain ⟨rfl, h2, h3, h4⟩ := hq
  exact ⟨.inl ⟨.bool true, .bool true, [], rfl, fun _ => rfl, .bool true, post_true l _, fun _ => ⟨List.Pairwise.nil, fun _ hm => (nomatch hm)⟩⟩, h2, h3, h4⟩
section
variable {prog : Program} {w : World} {A : Around} {E : Value → Shared → Prop} {s : Shared} {K : Frag}
end
end Att
namespace L2
open PySem PySem.Spec PyProof.Rows
theorem vals_ints : ∀ {vs : List Value} {ns : List Int}, IntsAre vs ns → Vals (ns.map V.int) vs
  | _, _, .nil => .nil
  | _, _, .cons n t h => .cons ⟨t, rfl⟩ (vals_ints h)
def Only (H : Hp) : Prop := ∀ b, H b = none ∨ ∃ o xs, H b = some (.frz o (.lst xs))
theorem law_call {P : Program} {w : World} {K : PySem.W.Frag} {mg mb : Str → Option Value} {CX : CXT} {k : Nat} {fa a : Addr} {fd : FuncData} {x : Str} {sp : Sp} {s₁ : Shared} {vs : List Value} {ns : List Int}
    (KX : K.In s₁.heap) (hns : s₁.heap.Ns mainGlobals mg) (hb : s₁.heap.Ns builtinsNs mb) (hbb : ∀ x : Str, x ≠ "__name__" → mb x = bootBuiltins x) (hlim : s₁.heap.NoLimit) (hg : s₁.gens = #[])
    (ha : s₁.heap.get? a = some { cls := .type "list", data := .seq vs.toArray }) (hi : IntsAre vs ns) (hl : ns.length ≤ sizeLine) (hr : Room k callerA)
    (F : ∀ base : Heap, K.In base → base.Ns mainGlobals mg → FnOk P w K mg base CX k fa fd [x] sp) (hbind : ∀ (s : Shared) (u : Value), BindsTo s fd ⟨[u], []⟩ [(x, u)])
    (hsp : ∀ H : Hp, Only H → SqL K H a (ns.map V.int) → sp [.ref a] H (fun v _ => v = .bl true) fun _ _ _ => False)
    (hCX : ∀ H e s', CX [] H s₁ (fun _ _ _ => False) e s' → False) :
    codeAny (model P w) callerA (.call (.ref fa) ⟨[.ref a], []⟩) (fun r s' => r = .ok (.ret (.bool true)) ∧ OldK s₁.heap s'.heap ∧ s'.os = s₁.os ∧ AllBare s'.gens) s₁ := by
  have rv := vals_ints hi
  have lenV := hi.length
  have core : ∀ H : Hp, Only H → SqL K H a (ns.map V.int) → HOk P w H s₁.heap → (∀ b, H b ≠ none → b = a) → (H a ≠ none → K.lookup a = none) →
      codeAny (model P w) callerA (.call (.ref fa) ⟨[.ref a], []⟩) (fun r s' => r = .ok (.ret (.bool true)) ∧ OldK s₁.heap s'.heap ∧ s'.os = s₁.os ∧ AllBare s'.gens) s₁ := by
    intro H hO hS hok hA hK
    have base_of : ∀ {b : Addr} {o : Obj}, s₁.heap.get? b = some o → H b = none → (hidT s₁.heap H).get? b = some o := fun e n => hidT_get e n
    have noA : ∀ {b : Addr} {o : Obj} {es : Array DictEntry} {ep : Nat}, s₁.heap.get? b = some o → o.data = .dict es ep → H b = none := fun {b o es ep} e d => by
      cases q : H b with
      | none => rfl
      | some u =>
        have e' : b = a := hA b (by rw [q]; simp)
        subst e'
        rw [ha] at e; cases e
        have d' : Data.seq vs.toArray _ = Data.dict es ep := d
        cases d'
    have nsK : ∀ {b : Addr} {m : Str → Option Value}, s₁.heap.Ns b m → (hidT s₁.heap H).Ns b m := fun {b m} ⟨o, es, ep, e, d, r⟩ => ⟨o, es, ep, base_of e (noA e d), d, r⟩
    have hKb : K.In (hidT s₁.heap H) := fun b o e => base_of (KX b o e) (by
      cases q : H b with
      | none => rfl
      | some u =>
        have e' : b = a := hA b (by rw [q]; simp)
        subst e'
        rw [hK (by rw [q]; simp)] at e; cases e)
    have hM : Mod K mg (hidT s₁.heap H) := ⟨hKb, nsK hns, ⟨mb, nsK hb, hbb⟩, let ⟨mc, h1, h2⟩ := hlim; ⟨mc, nsK h1, h2⟩⟩
    have e0 : Env0 P w K mg (hidT s₁.heap H) callerA [] s₁ H := ⟨rfl, hM, fun b o e => of_hidT e, Nat.le_of_eq (hidT_size _ _), trivial, fun b hb => absurd (show b ∈ ([] : List Addr) from hb) (by simp), hok, .of_eq hg⟩
    refine codeAny_mono ((F _ hKb (nsK hns)).run callerA [] s₁ H ⟨[.ref a], []⟩ [.ref a] [.ref a] _ _ hr e0 (hbind s₁ (.ref a)) (.cons rfl .nil) (hsp H hO hS)) fun r s' h => ?_
    cases r with
    | error e => exact (hCX H e s' h).elim
    | ok fl =>
      cases fl with
      | next => exact False.elim h
      | brk => exact False.elim h
      | cont => exact False.elim h
      | ret u =>
        obtain ⟨v, H', os, bare, un, hok', r', q⟩ := h
        have q' : v = .bl true := q
        subst q'
        obtain rfl : u = Value.bool true := r'
        refine ⟨rfl, OldK.of_keep fun b o e => ?_, os, bare⟩
        cases q : H b with
        | none => exact un.keep b o e q (by intro z; exact absurd (show b ∈ ([] : List Addr) from z) (by simp)) (by simp)
        | some u =>
          rcases hO b with z | ⟨ob, xs, z⟩
          · rw [q] at z; cases z
          · have z2 := un.frzs b ob _ z
            obtain ⟨e1, _⟩ := hok b _ z
            obtain ⟨e2, _⟩ := hok' b _ z2
            rw [e] at e1; cases e1
            exact e2
  cases hk : K.lookup a with
  | some o =>
    have e := KX a o hk
    rw [ha] at e
    cases e
    refine core (fun _ => none) (fun _ => .inl rfl) (.inr ⟨_, vs.toArray, _, hk, rfl, rfl, rfl, by rw [List.size_toArray, lenV]; exact hl, by simpa using rv⟩) (fun b u z => by have z' : (none : Option HO) = some u := z; cases z') (fun b z => absurd rfl z) fun z => absurd rfl z
  | none =>
    refine core (fun b => if b = a then some (.frz { cls := .type "list", data := .seq vs.toArray } (.lst (ns.map V.int))) else none) (fun b => ?_) (.inl (.inr ⟨{ cls := .type "list", data := .seq vs.toArray }, if_pos rfl⟩)) (fun b u z => ?_) (fun b z => ?_) fun _ => hk
    · by_cases hb : b = a
      · exact .inr ⟨_, _, if_pos hb⟩
      · exact .inl (if_neg hb)
    · by_cases hb : b = a
      · have z' := (if_pos hb).symm.trans z
        cases z'
        subst hb
        exact ⟨ha, by rw [List.length_map]; exact hl, vs, _, rv, ha⟩
      · have z' := (if_neg hb).symm.trans z
        cases z'
    · by_cases hb : b = a
      · exact hb
      · exact absurd (if_neg hb) z
end L2
namespace L2
open PySem PySem.Spec PyProof.Rows
abbrev KOf {K : PySem.W.Frag} {h : Heap} (_ : K.In h) : PySem.W.Frag := K
theorem walk_of {l : PySem.W.OpenLaw} {n k : Nat} {q : Program} {loose : List Str} {XP : (Str → Option Value) → Heap → Prop} {YP : World → Heap → Prop} {d : DefRec} {K : Params → PySem.W.Frag} {CX : World → CXT} {sp : World → Sp} {x : Str}
    (hn : l.most = some n) (hn2 : n ≤ sizeLine) (hdf : d.params.defaults = []) (hr : Room k callerA)
    (hY : ∀ (w : World) (h : Heap), YP w h → (K w.params).In h)
    (F : ∀ (w : World) (mg : Str → Option Value) (fa : Addr) (h : Heap), (K w.params).In h → h.Ns mainGlobals mg → mg d.name = some (.ref fa) →
      ∃ fd : FuncData, (∀ (s : Shared) (u : Value), BindsTo s fd ⟨[u], []⟩ [(x, u)]) ∧
        ∀ base : Heap, (K w.params).In base → base.Ns mainGlobals mg → FnOk l.prog w (K w.params) mg base (CX w) k fa fd [x] (sp w))
    (hsp : ∀ (w : World) (H : Hp) (a : Addr) (ns : List Int), ns.length ≤ n → Only H → SqL (K w.params) H a (ns.map V.int) → sp w [.ref a] H (fun v _ => v = .bl true) fun _ _ _ => False)
    (hCX : ∀ (w : World) (H : Hp) (s : Shared) (e : Value) (s' : Shared), CX w [] H s (fun _ _ _ => False) e s' → False) :
    PySem.W.WalkO q loose XP YP l.row.toRowW d [] (fun f vs => PySem.call f vs) := by
  refine Att.attach_call hn hdf fun w s₀ s₁ mg mb fa o pm cd doc a vs ns G Y ho hd hcd hmg hobj hints hlen hg => ?_
  have KX := hY w _ Y
  obtain ⟨fd, hb, hF⟩ := F w mg fa _ KX G.T.g hmg
  exact law_call KX G.T.g G.T.b G.T.builtins G.T.nolimit hg hobj hints (Nat.le_trans hlen hn2) hr hF hb (fun H hO hS => hsp w H a ns hlen hO hS) fun H e s' => hCX w H s₁ e s'
end L2
/- THE LAST THEOREM (shape; LID, My.* are yours):
   My.Adr: a structure of the addresses that your layer names (classes, functions); My.Txt K t: a structure (Prop) of the equations over K;
   My.txt_mk : {K} {implicit addresses ..} (e1 : nsIn K mainGlobals "law" = some (some (.ref f))) (e2 : K.lookup f = some ⟨oc, od, .func (fnOf "law" "law" params body scope dV kV doc pm an cdv ct), sl⟩) (e3 : codeIn K cdv "law" = true) .. : ∃ t, My.Txt K t
set_option maxRecDepth 100000 in
set_option maxHeartbeats 0 in
theorem PySem.Challenge.cw_LID_holds : PySem.Challenge.rw_LID.Holds := by
  w_on; o_law; k_head; (case hw => w_witness2)
  k_fill
  refine L2.walk_of (l := PySem.Challenge.rw_LID) (n := 63) (k := 40) (x := "script") (CX := fun w => ..) (sp := fun _ => My.sp_law) rfl (by decide) rfl ⟨rfl, by decide, by decide⟩ (fun w h Y => PySem.W.kIn_of Y) ?F ?S ?C
  case F =>
    intro w mg fa h KX G hmg
    have T : ∃ t, My.Txt (L2.KOf KX) t := by
      dsimp only [L2.KOf]                          -- K must stand as «<heap const> w.params» for k_is
      refine' My.txt_mk ?e1 ?e2 ?e3 ..
      (case e1 => PySem.W.k_is)                    -- in the order: a name -> its address -> its object -> its parts
      (case e2 => PySem.W.k_is)
      ..
    obtain ⟨t, T⟩ := T
    have e0 := hmg.symm.trans (PySem.W.mg_of KX G T.law)
    cases e0                                       -- fa is the law's own address
    exact ⟨_, fun s u => .of_eq rfl, fun base kb nb => My.law_fn T kb nb⟩     -- if «.of_eq rfl» comes too early: refine' ⟨_, ?b, fun base kb nb => My.law_fn T kb nb⟩; exact fun s u => .of_eq rfl
  case S => exact fun w H a ns hl hO hS => ..
  case C => exact ..
(the tactic k_is has no namespace: write k_is) -/
namespace L2
open PySem PySem.Spec PyProof.Rows
def defArgs (s : Stmt) : Arguments := match s with
  | .FunctionDef _ a _ _ _ _ _ _ _ _ => a
  | _ => { posonlyargs := [], args := [], vararg := none, kwonlyargs := [], kw_defaults := [], kwarg := none, defaults := [] }
def defBody (s : Stmt) : List Stmt := match s with
  | .FunctionDef _ _ b _ _ _ _ _ _ _ => b
  | _ => []
def defScope (s : Stmt) : Scope := match s with
  | .FunctionDef _ _ _ _ _ _ sc _ _ _ => sc
  | _ => { kind := .function, names := [], isGenerator := false, isCoroutine := false }
abbrev CX0 : CXT := fun _ _ _ _ _ _ => False
abbrev E0 : XK := fun _ _ _ => False
theorem pass0 {X : Cx} : Passes CX0 X E0 := fun _ _ _ _ _ _ _ h => h.elim
structure Fun (K : PySem.W.Frag) (x qual : Str) (st : Stmt) (f : Addr) (fd : FuncData) : Prop where
  ex : ∃ (oc : Value) (od : Option Addr) (kV doc pm : Value) (an : Option Addr) (cdv ct : Value) (osl : Array (Option Value)),
    fd = PySem.W.fnOf x qual (defArgs st) (defBody st) (defScope st) .none kV doc pm an cdv ct ∧ K.lookup f = some ⟨oc, od, .func fd, osl⟩ ∧ PySem.W.codeIn K cdv qual = true
  kp : PySem.W.keepIn K (.ref f) = true
section
variable {P : Program} {w : World} {K : PySem.W.Frag} {mg : Str → Option Value} {base : Heap}
theorem Fun.ok {x qual : Str} {st : Stmt} {f : Addr} {fd : FuncData} {N ps : List Str} {k : Nat} {sp : Sp} (F : Fun K x qual st f fd) (S : FnScope N ps (defScope st)) (len : ∀ vs H Q E, sp vs H Q E → vs.length = ps.length)
    (hbody : ∀ (cdv : Value) (A : Around) (outer : List Env) (s : Shared) (H : Hp) (vs : List V) (Q : VK) (E : XK), Room k (A.deeper (envOfC qual (defScope st) s.heap.objs.size f cdv)) → sp vs H Q E →
      ∃ t, PSs (cxOf CX0 P w K mg base N qual (defScope st) f cdv A outer s H E).nox (defBody st) t ∧ t { nx := fun _ H' => Q .non H', rt := Q } (start N vs) H) : FnOk P w K mg base CX0 (k + 1) f fd ps sp := by
  obtain ⟨oc, od, kV, doc, pm, an, cdv, ct, osl, rfl, lk, hcd⟩ := F.ex
  refine fn_of lk hcd S len fun A outer s H vs Q E hr hsp => ?_
  obtain ⟨t, h, q⟩ := hbody cdv A outer s H vs Q E hr hsp
  exact ⟨t, h.nox, q⟩
theorem Fun.binds {x qual : Str} {st : Stmt} {f : Addr} {fd : FuncData} {ps : List Str} (F : Fun K x qual st f fd)
    (h : ∀ (kV doc pm : Value) (an : Option Addr) (cdv ct : Value) (us : List Value), us.length = ps.length → bindArgs (PySem.W.fnOf x qual (defArgs st) (defBody st) (defScope st) .none kV doc pm an cdv ct) ⟨us, []⟩ = pure (ps.zip us)) : Binds K fd ps [] := by
  obtain ⟨oc, od, kV, doc, pm, an, cdv, ct, osl, rfl, lk, hcd⟩ := F.ex
  exact .all (h kV doc pm an cdv ct)
theorem fun_mk {x qual : Str} {st : Stmt} {f : Addr} {oc : Value} {od an : Option Addr} {osl : Array (Option Value)} {kV doc pm cdv ct : Value} (l : K.lookup f = some ⟨oc, od, .func (PySem.W.fnOf x qual (defArgs st) (defBody st) (defScope st) .none kV doc pm an cdv ct), osl⟩)
    (c : PySem.W.codeIn K cdv qual = true) (k : PySem.W.keepIn K (.ref f) = true) : Fun K x qual st f (PySem.W.fnOf x qual (defArgs st) (defBody st) (defScope st) .none kV doc pm an cdv ct) := ⟨⟨oc, od, kV, doc, pm, an, cdv, ct, osl, rfl, l, c⟩, k⟩
end
section
variable {X : Cx}
theorem pv (i : Nat) {x : Str} {pos : Pos} (hN : X.N[i]? = some x := by rfl) (hv : Vis X.env.scope x := by first | exact Or.inl rfl | exact Or.inr (Or.inl rfl) | exact Or.inr (Or.inr rfl)) (hd : (x == ("__debug__" : Str)) = false := by decide)
    (hcd : (x == ("__classdict__" : Str)) = false := by decide) : PE X (.Name x pos) (tVar i) := pe_var hN hv hd hcd
end
def Same (H H' : Hp) : Prop := ∀ b o, H b = some o → H' b = some o
theorem Same.refl (H : Hp) : Same H H := fun _ _ h => h
theorem Same.trans {H H1 H2 : Hp} (a : Same H H1) (b : Same H1 H2) : Same H H2 := fun c o h => b c o (a c o h)
theorem Same.free {H H' : Hp} (e : Same H H') {l : Addr} (h : H' l = Option.none) : H l = Option.none := by
  cases q : H l with
  | none => rfl
  | some o =>
    rw [e l o q] at h
    cases h
theorem Same.seq {K : PySem.W.Frag} {H H' : Hp} {a : Addr} {xs : List V} (e : Same H H') (h : SqL K H a xs) : SqL K H' a xs := by
  rcases h with (h | ⟨o, h⟩) | h
  · exact .inl (.inl (e _ _ h))
  · exact .inl (.inr ⟨o, e _ _ h⟩)
  · exact .inr h
end L2
namespace L2
open PySem PySem.Spec PyProof.Rows
section
variable {κ : Type} [DecidableEq κ]
def valV (kvs : List (κ × V)) (k : κ) : Option V := (kvs.find? fun kv => decide (kv.1 = k)).map (·.2)
def putK (kvs : List (κ × V)) (k : κ) (v : V) : List (κ × V) :=
  if (kvs.any fun kv => decide (kv.1 = k)) = true then kvs.map (fun kv => if kv.1 = k then (kv.1, v) else kv) else kvs ++ [(k, v)]
def dropK (kvs : List (κ × V)) (k : κ) : List (κ × V) := kvs.filter fun kv => decide (kv.1 ≠ k)
theorem valV_pos {p : κ × V} {r : List (κ × V)} {k : κ} (e : p.1 = k) : valV (p :: r) k = some p.2 := by simp [valV, List.find?_cons, e]
theorem valV_neg {p : κ × V} {r : List (κ × V)} {k : κ} (e : ¬ p.1 = k) : valV (p :: r) k = valV r k := by simp [valV, List.find?_cons, e]
theorem RelO.getD {o : Option V} {u : Option Value} {d : V} {d' : Value} (r : RelO o u) (rd : RelV d d') : RelV (o.getD d) (u.getD d') := by
  cases o with
  | none => cases u with
    | none => exact rd
    | some _ => exact (show False from r).elim
  | some _ => cases u with
    | none => exact (show False from r).elim
    | some _ => exact r
theorem KV.val {kvs : List (κ × V)} {vs : List (κ × Value)} (r : KV kvs vs) (k : κ) : RelO (valV kvs k) (valueAt vs k) := by
  unfold KV at r
  induction r with
  | nil => exact True.intro
  | @cons p q ps qs h t ih =>
    obtain ⟨h1, h2⟩ := h
    by_cases e : p.1 = k
    · have e' : q.1 = k := h1.symm.trans e
      have b : valueAt (q :: qs) k = some q.2 := by simp [valueAt, List.find?_cons, e']
      rw [valV_pos e, b]; exact h2
    · have e' : ¬ q.1 = k := fun z => e (h1.trans z)
      have b : valueAt (q :: qs) k = valueAt qs k := by simp [valueAt, List.find?_cons, e']
      rw [valV_neg e, b]; exact ih
theorem KV.any {kvs : List (κ × V)} {vs : List (κ × Value)} (r : KV kvs vs) (k : κ) : (kvs.any fun kv => decide (kv.1 = k)) = vs.any fun kv => decide (kv.1 = k) := by
  unfold KV at r
  induction r with
  | nil => rfl
  | cons h t ih => rw [List.any_cons, List.any_cons, ih, h.1]
theorem KV.drop {kvs : List (κ × V)} {vs : List (κ × Value)} (r : KV kvs vs) (k : κ) : KV (dropK kvs k) (without vs k) := by
  unfold KV at r ⊢
  unfold dropK without
  induction r with
  | nil => exact .nil
  | @cons p q ps qs h t ih =>
    obtain ⟨h1, h2⟩ := h
    rw [List.filter_cons, List.filter_cons]
    by_cases e : p.1 = k
    · have a : ¬ decide (p.1 ≠ k) = true := by simp [e]
      have b : ¬ decide (q.1 ≠ k) = true := by simp [h1.symm.trans e]
      rw [if_neg a, if_neg b]; exact ih
    · have e' : ¬ q.1 = k := fun z => e (h1.trans z)
      have a : decide (p.1 ≠ k) = true := by simp [e]
      have b : decide (q.1 ≠ k) = true := by simp [e']
      rw [if_pos a, if_pos b]; exact .cons ⟨h1, h2⟩ ih
theorem KV.keys {kvs : List (κ × V)} {vs : List (κ × Value)} (r : KV kvs vs) : kvs.map (·.1) = vs.map (·.1) := by
  unfold KV at r
  induction r with
  | nil => rfl
  | cons h t ih => rw [List.map_cons, List.map_cons, ih, h.1]
theorem KV.length {kvs : List (κ × V)} {vs : List (κ × Value)} (r : KV kvs vs) : kvs.length = vs.length := Paired.length r
end
abbrev KT (H : Hp) : List (List Key × V) → List (List Key × Addr × Value) → Prop := Paired fun p q => p.1 = q.1 ∧ H q.2.1 = some (.tup (p.1.map kV)) ∧ RelV p.2 q.2.2
theorem KT.val {H : Hp} {kvs : List (List Key × V)} {xs : List (List Key × Addr × Value)} (r : KT H kvs xs) (k : List Key) : RelO (valV kvs k) ((atKey xs k).map (·.2)) := by
  induction r with
  | nil => exact True.intro
  | @cons p q ps qs h t ih =>
    obtain ⟨h1, _, h2⟩ := h
    by_cases e : p.1 = k
    · have e' : q.1 = k := h1.symm.trans e
      have b : atKey (q :: qs) k = some q.2 := by simp [atKey, List.find?_cons, e']
      rw [valV_pos e, b]; exact h2
    · have e' : ¬ q.1 = k := fun z => e (h1.trans z)
      have b : atKey (q :: qs) k = atKey qs k := by simp [atKey, List.find?_cons, e']
      rw [valV_neg e, b]; exact ih
theorem KT.keeps {H H' : Hp} {kvs : List (List Key × V)} {xs : List (List Key × Addr × Value)} (r : KT H kvs xs) (ht : ∀ b ys, H b = some (.tup ys) → H' b = some (.tup ys)) : KT H' kvs xs :=
  Paired.mapP r fun _ _ z => ⟨z.1, ht _ _ z.2.1, z.2.2⟩
section
variable {P : Program} {w : World} {H : Hp} {h : Heap} {a : Addr}
end
def DGet (H : Hp) (a : Addr) (y : V) (r : Option V) : Prop :=
  (∃ kvs k, Rd H a (.dK kvs) ∧ y = kV k ∧ r = valV kvs k) ∨ ∃ kvs k b, Rd H a (.dT kvs) ∧ y = .ref b ∧ H b = some (.tup (k.map kV)) ∧ r = valV kvs k
def DPut (H : Hp) (a : Addr) (y v : V) (H' : Hp) : Prop :=
  (∃ kvs k, H a = some (.dK kvs) ∧ y = kV k ∧ kvs.length < sizeLine ∧ H' = upd H a (.dK (putK kvs k v))) ∨
  ∃ kvs k b, H a = some (.dT kvs) ∧ y = .ref b ∧ H b = some (.tup (k.map kV)) ∧ kvs.length < sizeLine ∧ H' = upd H a (.dT (putK kvs k v))
theorem DGet.k {H : Hp} {a : Addr} {kvs : List (Key × V)} {k : Key} (e : H a = some (.dK kvs)) : DGet H a (kV k) (valV kvs k) := .inl ⟨kvs, k, .inl e, rfl, rfl⟩
theorem DGet.t {H : Hp} {a b : Addr} {kvs : List (List Key × V)} {k : List Key} (e : H a = some (.dT kvs)) (eb : H b = some (.tup (k.map kV))) : DGet H a (.ref b) (valV kvs k) := .inr ⟨kvs, k, b, .inl e, rfl, eb, rfl⟩
theorem DPut.k {H : Hp} {a : Addr} {kvs : List (Key × V)} {k : Key} {v : V} (e : H a = some (.dK kvs)) (hl : kvs.length < sizeLine) : DPut H a (kV k) v (upd H a (.dK (putK kvs k v))) := .inl ⟨kvs, k, e, rfl, hl, rfl⟩
theorem DPut.t {H : Hp} {a b : Addr} {kvs : List (List Key × V)} {k : List Key} {v : V} (e : H a = some (.dT kvs)) (eb : H b = some (.tup (k.map kV))) (hl : kvs.length < sizeLine) :
    DPut H a (.ref b) v (upd H a (.dT (putK kvs k v))) := .inr ⟨kvs, k, b, e, rfl, eb, hl, rfl⟩
section
variable {X : Cx} {pins : List (Addr × Obj)} {σ : St} {H : Hp} {s : Shared} {a : Addr} {y v : V} {u r : Value} {o : Option V} {A : Around} {E : Value → Shared → Prop}
theorem Inv.big (I : Inv X pins σ H s) : sysModules < s.heap.objs.size := by
  have h : mainGlobals < s.heap.objs.size := (I.mod.glob.keeps I.bk).lt
  exact Nat.lt_trans (by decide) h
end
section
variable {X : Cx} {pins : List (Addr × Obj)} {σ : St} {H : Hp} {s : Shared} {a : Addr} {kvs : List (Key × V)} {k : Key} {u : Value} {A : Around} {E : Value → Shared → Prop}
end
section
variable {X : Cx} {o i e value : Expr} {pos pos' tpos : Pos} {td ty tv : TE}
end
theorem dk_empty {P : Program} {w : World} {H : Hp} (h : Heap) (hb : sysModules < h.objs.size) : ObjOk P w H (h.push { cls := .type "dict", data := .dict #[] }) h.objs.size (.dK []) :=
  ⟨Nat.zero_le _, beq_eq_false_iff_ne.mpr (Ne.symm (Nat.ne_of_lt hb)), [], .nil, Heap.DictOf.new h⟩
def tDNewK : TE := fun _ H Q => ∀ p, H p = none → Q (.ref p) (upd H p (.dK []))
section
variable {X : Cx} {pos : Pos}
theorem pe_dnewK : PE X (.Dict [] [] pos) tDNewK := fun pins s σ H Q I h =>
  wpAny_Dict_empty ⟨.ref s.heap.objs.size, _, I.laid (a := s.heap.objs.size) (o := .dK []) (t' := s.toks) (fun _ _ q => Heap.get?_push_of_some _ q) (Nat.le_refl _) (dk_empty s.heap I.big), rfl, h _ (I.hok.fresh (Nat.le_refl _))⟩
end
def tPairs : List (TE × TE) → St → Hp → (List (V × V) → Hp → Prop) → Prop
  | [], _, H, Q => Q [] H
  | (tk, tv) :: r, σ, H, Q => tk σ H fun x H1 => tv σ H1 fun y H2 => tPairs r σ H2 fun ps H3 => Q ((x, y) :: ps) H3
abbrev VV : List (V × V) → List (Value × Value) → Prop := Paired fun p q => RelV p.1 q.1 ∧ RelV p.2 q.2
def PPs (X : Cx) (pos : Pos) (keys : List (Option Expr)) (values : List Expr) (trs : List (TE × TE)) : Prop :=
  ∀ (pins : List (Addr × Obj)) (s : Shared) (σ : St) (H : Hp) (Q : List (V × V) → Hp → Prop), Inv X pins σ H s → tPairs trs σ H Q →
    wpAny (model X.prog X.w) X.A (evalPairs (pairTrees keys values X.env pos)) (fun vs s' => ∃ ps H', Inv X pins σ H' s' ∧ VV ps vs ∧ Q ps H') X.xe s
structure M1 (X : Cx) (o : Expr) (m : Str) (apos : Pos) (e : Expr) (cpos : Pos) : Prop where
  base : attributeBase o m X.env (eval o X.env) = eval o X.env
  few : ((backTo cpos (starEach [e] X.env)).all (fun x => !x.1) && (backToKw cpos (keywordEach [] X.env)).all (fun x => x.1.isSome)
    && decide (([e] : List Expr).length + ([] : List Keyword).length + (if ([] : List Keyword).isEmpty then 0 else 1) < 30)) = true
  line : (apos.endLine == cpos.line) = true
  trees : backTo cpos (starEach [e] X.env) = [(false, eval e X.env)]
structure M2 (X : Cx) (o : Expr) (m : Str) (apos : Pos) (e f : Expr) (cpos : Pos) : Prop where
  base : attributeBase o m X.env (eval o X.env) = eval o X.env
  few : ((backTo cpos (starEach [e, f] X.env)).all (fun x => !x.1) && (backToKw cpos (keywordEach [] X.env)).all (fun x => x.1.isSome)
    && decide (([e, f] : List Expr).length + ([] : List Keyword).length + (if ([] : List Keyword).isEmpty then 0 else 1) < 30)) = true
  line : (apos.endLine == cpos.line) = true
  trees : backTo cpos (starEach [e, f] X.env) = [(false, eval e X.env), (false, eval f X.env)]
section
variable {X : Cx} {pins : List (Addr × Obj)} {σ : St} {H : Hp} {s : Shared} {a : Addr} {y d : V} {u r : Value} {o : Option V} {A : Around} {E : Value → Shared → Prop}
end
section
variable {X : Cx} {o e f : Expr} {apos cpos : Pos} {td ty tx : TE}
end
section
variable {X : Cx} {pins : List (Addr × Obj)} {σ : St} {H : Hp} {s : Shared} {a : Addr} {kvs : List (Key × V)} {A : Around} {E : Value → Shared → Prop}
end
section
variable {X : Cx} {pins : List (Addr × Obj)} {σ : St} {H : Hp} {s : Shared} {a : Addr} {y : V} {u : Value} {A : Around} {E : Value → Shared → Prop}
end
end L2
namespace L2
open PySem PySem.Spec PyProof.Rows
section
variable {X : Cx}
end
section
variable {κ : Type} [DecidableEq κ]
end
end L2
namespace L2
open PySem PySem.Spec PyProof.Rows
def closGo (cells : List (Str × Addr)) : List (Str × NameKind) → List (Str × Addr) → List (Str × Addr)
  | [], acc => acc
  | (n, k) :: r, acc => if k == .free then closGo cells r ((n, (cells.lookup n).getD 0) :: acc) else closGo cells r acc
def closOf (scope : Scope) (env : Env) : List (Str × Addr) := closGo env.cells scope.names []
theorem closureFor_eq {scope : Scope} {env : Env} (hf : ∀ y ∈ scope.names, y.2 = .free → ∃ c, env.cells.lookup y.1 = some c) : closureFor scope env = pure (closOf scope env) := by
  simp only [closureFor, closOf]
  generalize ([] : List (Str × Addr)) = acc
  generalize scope.names = names at hf
  induction names generalizing acc with
  | nil => rfl
  | cons y r ih =>
    obtain ⟨n, k⟩ := y
    have hr := fun a => ih a fun z hz => hf z (List.mem_cons_of_mem _ hz)
    by_cases hk : k = .free
    · obtain ⟨c, hc⟩ := hf (n, k) List.mem_cons_self hk
      have hc' : env.cells.lookup n = some c := hc
      subst hk
      simp only [List.forIn_cons, beq_self_eq_true, if_true, cellOf, hc', pure_bind, bind_assoc, closGo, Option.getD_some]
      exact hr _
    · have hb : (k == NameKind.free) = false := by simpa using hk
      simp only [List.forIn_cons, hb, Bool.false_eq_true, if_false, pure_bind, bind_assoc, closGo]
      exact hr _
theorem closGo_some {cells : List (Str × Addr)} {x : Str} {c : Addr} : ∀ {names : List (Str × NameKind)} {acc : List (Str × Addr)}, (closGo cells names acc).lookup x = some c → acc.lookup x = some c ∨ (∃ k, (x, k) ∈ names ∧ k = .free ∧ (cells.lookup x).getD 0 = c)
  | [], acc, h => .inl h
  | (n, k) :: r, acc, h => by
    unfold closGo at h
    by_cases hk : k = .free
    · subst hk
      simp only [beq_self_eq_true, if_true] at h
      rcases closGo_some h with z | ⟨k, hm, q⟩
      · rw [List.lookup_cons] at z
        by_cases hx : x = n
        · subst hx
          simp at z
          exact .inr ⟨.free, List.mem_cons_self, rfl, z⟩
        · have hb : (x == n) = false := by simpa using hx
          rw [hb] at z
          exact .inl z
      · exact .inr ⟨k, List.mem_cons_of_mem _ hm, q⟩
    · have hb : (k == NameKind.free) = false := by simpa using hk
      simp only [hb, Bool.false_eq_true, if_false] at h
      rcases closGo_some h with z | ⟨k, hm, q⟩
      · exact .inl z
      · exact .inr ⟨k, List.mem_cons_of_mem _ hm, q⟩
theorem closGo_has {cells : List (Str × Addr)} {x : Str} : ∀ {names : List (Str × NameKind)} {acc : List (Str × Addr)}, ((∃ c, acc.lookup x = some c) ∨ (x, NameKind.free) ∈ names) → ∃ c, (closGo cells names acc).lookup x = some c
  | [], acc, h => by
    rcases h with h | h
    · exact h
    · cases h
  | (n, k) :: r, acc, h => by
    unfold closGo
    by_cases hk : k = .free
    · subst hk
      simp only [beq_self_eq_true, if_true]
      refine closGo_has ?_
      by_cases hx : x = n
      · subst hx
        exact .inl ⟨(cells.lookup x).getD 0, by simp [List.lookup_cons]⟩
      · have hb : (x == n) = false := by simpa using hx
        rcases h with ⟨c, h⟩ | h
        · exact .inl ⟨c, by rw [List.lookup_cons, hb]; exact h⟩
        · rcases List.mem_cons.mp h with e | h
          · cases e; exact absurd rfl hx
          · exact .inr h
    · have hb : (k == NameKind.free) = false := by simpa using hk
      simp only [hb, Bool.false_eq_true, if_false]
      refine closGo_has ?_
      rcases h with h | h
      · exact .inl h
      · rcases List.mem_cons.mp h with e | h
        · cases e; exact absurd rfl hk
        · exact .inr h
def relabelS (scope sc0 : Scope) : List (Str × NameKind) :=
  scope.names.map fun (n, k) => if (k == .free && sc0.kind == .function && sc0.names.lookup n == some .cell) then (n, .cell) else (n, k)
theorem relabelS_cf {scope sc0 : Scope} (hc : ∀ y ∈ scope.names, y.2 ≠ .cell) {x : Str} {k : NameKind} (h : (relabelS scope sc0).lookup x = some k) (hk : k = .cell ∨ k = .free) : (x, NameKind.free) ∈ scope.names := by
  have hm := PySem.mem_of_lookup h
  unfold relabelS at hm
  obtain ⟨⟨n, k0⟩, h1, h2⟩ := List.mem_map.mp hm
  dsimp only at h2
  by_cases hb : (k0 == NameKind.free && sc0.kind == .function && sc0.names.lookup n == some .cell) = true
  · rw [if_pos hb] at h2
    have e : k0 = .free := by
      simp only [Bool.and_eq_true, beq_iff_eq] at hb
      exact hb.1.1
    cases h2
    rw [← e]; exact h1
  · rw [if_neg hb] at h2
    cases h2
    rcases hk with e | e
    · exact absurd e (hc _ h1)
    · rw [← e]; exact h1
def compN (N0 own : List Str) (cap : List Nat) : List Str := own ++ cap.map fun j => N0.getD j (Str.ofString "")
def compSt (own : List Str) (cap : List Nat) (σ : St) : St := own.map (fun _ => none) ++ cap.map fun j => (σ[j]?).join
def compOk (sc0 : Scope) (N0 : List Str) (scope : Scope) (own : List Str) (cap : List Nat) : Bool :=
  (scope.kind == .function) && scope.names.all (fun y => y.2 != .cell) && scope.names.all (fun y => y.2 != .local || scope.names.lookup y.1 == some .local) &&
  scope.names.all (fun y => y.2 != .free || sc0.names.lookup y.1 == some .cell || sc0.names.lookup y.1 == some .free) &&
  cap.all fun j => decide (j < N0.length) && scope.names.contains (N0.getD j (Str.ofString ""), NameKind.free) && ((relabelS scope sc0).lookup (N0.getD j (Str.ofString "")) == some .cell || (relabelS scope sc0).lookup (N0.getD j (Str.ofString "")) == some .free)
structure CompOk (sc0 : Scope) (N0 : List Str) (scope : Scope) (own : List Str) (cap : List Nat) : Prop where
  kind : scope.kind = .function
  nocell : ∀ y ∈ scope.names, y.2 ≠ .cell
  names : ∀ y ∈ scope.names, y.2 = .local → scope.names.lookup y.1 = some .local
  free : ∀ y ∈ scope.names, y.2 = .free → sc0.names.lookup y.1 = some .cell ∨ sc0.names.lookup y.1 = some .free
  cap : ∀ j ∈ cap, j < N0.length ∧ (N0.getD j (Str.ofString ""), NameKind.free) ∈ scope.names ∧ ((relabelS scope sc0).lookup (N0.getD j (Str.ofString "")) = some .cell ∨ (relabelS scope sc0).lookup (N0.getD j (Str.ofString "")) = some .free)
theorem CompOk.of {sc0 : Scope} {N0 : List Str} {scope : Scope} {own : List Str} {cap : List Nat} (h : compOk sc0 N0 scope own cap = true) : CompOk sc0 N0 scope own cap := by
  unfold compOk at h
  simp only [Bool.and_eq_true, List.all_eq_true, beq_iff_eq, bne_iff_ne, ne_eq, Bool.or_eq_true, decide_eq_true_eq, List.contains_iff_mem] at h
  obtain ⟨⟨⟨⟨h1, h2⟩, h3⟩, h4⟩, h5⟩ := h
  refine ⟨h1, h2, fun y hy e => ?_, fun y hy e => ?_, fun j hj => ?_⟩
  · rcases h3 y hy with z | z
    · exact absurd e z
    · exact z
  · rcases h4 y hy with (z | z) | z
    · exact absurd e z
    · exact .inl z
    · exact .inr z
  · obtain ⟨⟨a, b⟩, c⟩ := h5 j hj
    exact ⟨a, b, c⟩
def cxComp (X : Cx) (scope : Scope) (C : Addr) (N' : List Str) (s : Shared) (H : Hp) (ex : List Addr) : Cx where
  prog := X.prog
  w := X.w
  K := X.K
  mg := X.mg
  base := X.base
  A := X.A
  N := N'
  s₀ := s
  H₀ := H
  env := compEnvC scope (closOf scope X.env) C X.env
  outer := X.stack
  stack := X.stack
  ex := ex
  fn := fun _ => false
  calm := X.calm
  pn := []
  xe := fun _ _ => False
section
variable {X : Cx}
def PIfs (X : Cx) (ifs : List Expr) (t : TT) : Prop :=
  ∀ (pins : List (Addr × Obj)) (s : Shared) (σ : St) (H : Hp) (Q : Bool → Hp → Prop), Inv X pins σ H s → t σ H Q →
    wpAny (model X.prog X.w) X.A (forIn ifs true fun c r => if r = true then do let ok ← isTrue c X.env (eval c X.env); pure (ForInStep.yield ok) else pure (ForInStep.yield r)) (TP X pins σ Q) X.xe s
def tYes : TT := fun _ H Q => Q true H
theorem pifs_nil : PIfs X [] tYes := fun _ _ _ H _ I h => wpAny_tests_nil ⟨H, I, h⟩
end
def CompW (J : It) (g : TG) (tt : TT) (te : TE) (Q : List V → Hp → Prop) (σ0 : St) (H1 : Hp) : Prop :=
  ∃ W : Nat → Nat → List V → St → Hp → Prop, (∃ m, W 0 m [] σ0 H1) ∧ ∀ i m ys σ H, W i m ys σ H →
    (J.stop i H ∧ Q ys H) ∨ (J.go i H ∧ ys.length < sizeLine ∧ ∃ N : List V → St → Hp → Prop, (∀ ys σ' H', N ys σ' H' → ∃ m', m' < m ∧ W (i + 1) m' ys σ' H') ∧ ∀ x H', J.yld i H x H' → g x σ H' fun σ2 H2 => tt σ2 H2 fun b H3 =>
      if b = true then te σ2 H3 fun y H4 => N (ys ++ [y]) σ2 H4 else N ys σ2 H3)
def tComp (wi : TI) (own : List Str) (cap : List Nat) (g : TG) (tt : TT) (te : TE) : TE := fun σ H Q =>
  wi σ H fun J H1 => CompW J g tt te (fun ys H' => ys.length ≤ sizeLine ∧ ∀ p, H' p = none → Q (.ref p) (upd H' p (.lst ys))) (compSt own cap σ) H1
section
variable {prog : Program} {w : World} {A : Around} {R : Result → Shared → Prop} {s : Shared}
theorem codeAny_compLoop_go {elt target iter : Expr} {ifs : List Expr} {scope : Scope} {pos : Pos} {it acc : Value} {env : Env} (I : Nat → Shared → Prop)
    (turn : ∀ n s, I n s → wpAny (model prog w) A (pyNext it) (fun r s₁ => match r with
      | none => R (.ok .next) s₁
      | some v => wpAny (model prog w) A (letOwnedTupleGo target it v) (fun _ s₁' => wpAny (model prog w) A (assign target env v) (fun _ s₂ =>
          wpAny (model prog w) A (forIn ifs true fun c r => if r = true then do let ok ← isTrue c env (eval c env); pure (ForInStep.yield ok) else pure (ForInStep.yield r)) (fun ok s₃ =>
            if ok = true then wpAny (model prog w) A (eval elt env) (fun x s₄ =>
              wpAny (model prog w) A (call (.builtin "list.append") [acc, x]) (fun _ s₅ => ∃ m, m < n ∧ I m s₅) (fun _ _ => False) s₄) (fun _ _ => False) s₃
            else ∃ m, m < n ∧ I m s₃) (fun _ _ => False) s₂) (fun _ _ => False) s₁') (fun _ _ => False) s₁) (fun _ _ => False) s)
    (n : Nat) (h : I n s) :
    codeAny (model prog w) A (.compLoop (.ListComp elt [⟨target, iter, ifs, 0⟩] scope pos) 0 it acc env) R s := by
  refine codeAny_loop rfl I (fun n s hI => ?_) n h
  show wpAny _ A ((compTurn (.ListComp elt [⟨target, iter, ifs, 0⟩] scope pos) 0 it acc env).onRaise (fun x => do noteFrame x env; theTreesLotGoes x)) _ _ s
  refine wpAny_noted ?_
  rw [compTurn_list]
  refine wpAny_bind (wpAny_standAt (wpAny_bind (wpAny_mono (turn n s hI) (fun r s₁ h₁ => ?_) fun _ _ h' => h'.elim)))
  cases r with
  | none => exact wpAny_pure h₁
  | some v =>
    refine wpAny_bind (wpAny_mono h₁ (fun _ s₁' h₁' => ?_) fun _ _ h' => h'.elim)
    refine wpAny_bind (wpAny_mono h₁' (fun _ s₂ h₂ => wpAny_bind (wpAny_mono h₂ (fun ok s₃ h₃ => ?_) fun _ _ h' => h'.elim)) fun _ _ h' => h'.elim)
    cases ok with
    | false => exact wpAny_pure ⟨rfl, h₃⟩
    | true =>
      exact wpAny_bind (wpAny_bind (wpAny_mono h₃ (fun x s₄ h₄ => wpAny_bind (wpAny_mono h₄ (fun _ s₅ h₅ => wpAny_pure (wpAny_pure ⟨rfl, h₅⟩)) fun _ _ h' => h'.elim)) fun _ _ h' => h'.elim))
end
section
variable {X : Cx} {pins : List (Addr × Obj)} {σ : St} {s2 : Shared} {H2 : Hp} {elt tg iter : Expr} {ifs : List Expr} {scope : Scope} {pos : Pos} {g : TG} {tt : TT} {te : TE} {sc0 : Scope} {N0 own : List Str} {cap : List Nat}
  {it : Addr} {fp : List Addr} {tn : Nat → Heap → Prop} {J : It}
theorem clos_has (I2 : Inv X pins σ H2 s2) (hsc : X.env.scope = sc0) (ok : CompOk sc0 N0 scope own cap) : ∀ y ∈ scope.names, y.2 = .free → ∃ c, X.env.cells.lookup y.1 = some c := fun y hy e => by
  refine I2.ok.has y.1 ?_
  have q := ok.free y hy e
  rw [← hsc] at q
  exact q
theorem clos_lookup (I2 : Inv X pins σ H2 s2) (hsc : X.env.scope = sc0) (ok : CompOk sc0 N0 scope own cap) {x : Str} {c : Addr} (h : (closOf scope X.env).lookup x = some c) : X.env.cells.lookup x = some c := by
  rcases closGo_some h with z | ⟨k, hm, hk, q⟩
  · simp at z
  · obtain ⟨c', e⟩ := clos_has I2 hsc ok (x, k) hm hk
    have e' : X.env.cells.lookup x = some c' := e
    rw [e'] at q
    rw [e', ← q]; rfl
theorem comp_cxOk (I2 : Inv X pins σ H2 s2) (hsc : X.env.scope = sc0) (ok : CompOk sc0 N0 scope own cap) (T : Turn X.prog X.w X.K tg J fp it tn) (st2 : tn 0 s2.heap) (f2 : ∀ b ∈ fp, FpOk X pins H2 b)
    (C : Addr) (hC : s2.heap.objs.size ≤ C) : (cxComp X scope C (compN N0 own cap) s2 H2 fp).Ok := by
  have lt : ∀ b ∈ fp, b < s2.heap.objs.size := fun b hb => by
    obtain ⟨o, e, _⟩ := T.obj 0 _ st2 b hb
    exact Heap.lt_size e
  have rel : (relabel scope X.env).names = relabelS scope sc0 := by rw [← hsc]; rfl
  refine ⟨I2.ok.mod, ok.kind, I2.ok.glob, I2.ok.blt, hC, fun x y c h1 h2 => ?_, fun x hx => ?_, fun x c hf _ => absurd hf (by simp [cxComp]), I2.ok.hd, I2.ok.frames, .inl rfl, fun b hb => ⟨?_, fun x c h => ?_⟩, I2.bs, Nat.le_trans I2.ok.bsz I2.sz,
    fun b o e hb => ?_, fun b hb hz => ?_, I2.stack, I2.stkFree⟩
  · exact I2.ok.inj x y c (clos_lookup I2 hsc ok h1) (clos_lookup I2 hsc ok h2)
  · have hx' : (relabelS scope sc0).lookup x = some .cell ∨ (relabelS scope sc0).lookup x = some .free := by rw [← rel]; exact hx
    have hm : (x, NameKind.free) ∈ scope.names := by
      rcases hx' with q | q
      · exact relabelS_cf ok.nocell q (.inl rfl)
      · exact relabelS_cf ok.nocell q (.inr rfl)
    exact closGo_has (.inr hm)
  · exact Nat.ne_of_lt (Nat.lt_of_lt_of_le (lt b hb) hC)
  · exact (f2 b hb).2.2.2.2.1 x c (clos_lookup I2 hsc ok h)
  · rcases (f2 b hb).2.2.2.1 with z | z
    · exact I2.ok.noex b o e z
    · exact absurd (Nat.lt_of_lt_of_le (Heap.lt_size e) (Nat.le_trans I2.ok.bsz z)) (Nat.lt_irrefl _)
  · rcases List.mem_cons.mp (I2.stkSub b hz) with z | z
    · exact (f2 b hb).2.1 z
    · exact (f2 b hb).2.2.1 z
theorem comp_inv (I2 : Inv X pins σ H2 s2) (hsc : X.env.scope = sc0) (hN0 : X.N = N0) (ok : CompOk sc0 N0 scope own cap) (T : Turn X.prog X.w X.K tg J fp it tn) (st2 : tn 0 s2.heap) (f2 : ∀ b ∈ fp, FpOk X pins H2 b)
    (C : Addr) (hC : s2.heap.objs.size ≤ C) {h₁ : Heap} {tk : Nat} {m : Str → Option Value} (old : ∀ b o, s2.heap.get? b = some o → h₁.get? b = some o) (hns : h₁.Ns C m) :
    Inv (cxComp X scope C (compN N0 own cap) s2 H2 fp) [] (compSt own cap σ) H2 { s2 with heap := h₁, toks := tk } := by
  have rel : (relabel scope X.env).names = relabelS scope sc0 := by rw [← hsc]; rfl
  refine ⟨comp_cxOk I2 hsc ok T st2 f2 C hC, rfl, I2.bare, Un.kept old, ⟨m, hns, fun i x v e1 e2 _ => ?_⟩, fun x c h => ?_, I2.hok.fresh hC, fun x c h => ?_, fun p hp => absurd (show p ∈ ([] : List (Addr × Obj)) from hp) (by simp), I2.hok.kept old, ?_⟩
  · have e1' : (compN N0 own cap)[i]? = some x := e1
    unfold compN at e1'
    unfold compSt at e2
    by_cases hi : i < own.length
    · rw [List.getElem?_append_left (by simpa using hi), List.getElem?_map] at e2
      cases q : own[i]? with
      | none => rw [q] at e2; cases e2
      | some z => rw [q] at e2; cases e2
    · rw [List.getElem?_append_right (by simpa using hi), List.getElem?_map] at e2
      rw [List.getElem?_append_right (by simpa using hi), List.getElem?_map] at e1'
      rw [List.length_map] at e2
      cases q : cap[i - own.length]? with
      | none => rw [q] at e2; cases e2
      | some j =>
        rw [q] at e1' e2
        have ex : N0.getD j (Str.ofString "") = x := Option.some.inj e1'
        have ev : (σ[j]?).join = some v := Option.some.inj e2
        obtain ⟨hj, hm, hk⟩ := ok.cap j (List.mem_of_getElem? q)
        rw [ex] at hm hk
        have eN : X.N[j]? = some x := by
          rw [hN0, List.getElem?_eq_getElem hj]
          rw [List.getD_eq_getElem?_getD, List.getElem?_eq_getElem hj] at ex
          exact congrArg some ex
        have eσ : σ[j]? = some (some v) := by
          cases z : σ[j]? with
          | none => rw [z] at ev; cases ev
          | some o => rw [z] at ev; cases o with
            | none => cases ev
            | some y => exact congrArg some ev
        have kf : X.env.kindOf x = some .cell ∨ X.env.kindOf x = some .free := by
          have z := ok.free _ hm rfl
          rw [← hsc] at z
          exact z
        obtain ⟨m0, hn0, hl⟩ := I2.loc
        obtain ⟨u, r, l⟩ := hl j x v eN eσ (kf.elim (fun z => .inr (.inl z)) fun z => .inr (.inr z))
        refine ⟨u, r, .inr ⟨?_, ?_⟩⟩
        · show (relabel scope X.env).names.lookup x = _ ∨ (relabel scope X.env).names.lookup x = _
          rw [rel]; exact hk
        · rcases l with ⟨l, _⟩ | ⟨_, c, hc, ⟨o, ho, hd⟩⟩
          · rcases kf with z | z <;> (rw [z] at l; cases l)
          · obtain ⟨c', hc'⟩ := closGo_has (cells := X.env.cells) (names := scope.names) (acc := []) (.inr hm)
            have z := clos_lookup I2 hsc ok hc'
            rw [hc] at z
            cases z
            exact ⟨c, hc', o, old _ _ ho, hd⟩
  · obtain ⟨v, o, ho, hd⟩ := I2.cell x c (clos_lookup I2 hsc ok h)
    exact ⟨v, o, old _ _ ho, hd⟩
  · exact I2.freeC x c (clos_lookup I2 hsc ok h)
  · show (compSt own cap σ).length = (compN N0 own cap).length
    unfold compSt compN
    simp
theorem comp_block {Q : List V → Hp → Prop} {RR : Value → Addr → Result → Shared → Prop} {E : Value → Shared → Prop} (hc : X.calm = true) (I2 : Inv X pins σ H2 s2) (hsc : X.env.scope = sc0) (hN0 : X.N = N0) (ok : CompOk sc0 N0 scope own cap)
    (hg : ∀ C s H ex, PG (cxComp X scope C (compN N0 own cap) s H ex) tg g) (ht : ∀ C s H ex, PIfs (cxComp X scope C (compN N0 own cap) s H ex) ifs tt) (he : ∀ C s H ex, PE (cxComp X scope C (compN N0 own cap) s H ex) elt te)
    (T : Turn X.prog X.w X.K tg J fp it tn) (st2 : tn 0 s2.heap) (f2 : ∀ b ∈ fp, FpOk X pins H2 b) (hW : CompW J g tt te Q (compSt own cap σ) H2)
    (hRR : ∀ D C oC ys H' s', Inv X (pins ++ [(C, oC)]) σ (upd H' D (.lst ys)) s' → (∀ h : Heap, h.get? C = some oC → ∃ m, h.Ns C m) → FpOk X pins (upd H' D (.lst ys)) C → H' D = none → Q ys H' → RR (.ref D) C (.ok .next) s')
    (hQsz : ∀ ys H', Q ys H' → ys.length ≤ sizeLine) :
    wpAny (model X.prog X.w) X.A (newList []) (fun acc s₃ => wpAny (model X.prog X.w) X.A (newFunctionEnv scope X.env.globals (closOf scope X.env) [] X.env.qual none .none (some X.env)) (fun cenv s₄ =>
      codeAny (model X.prog X.w) X.A (.compStart (.ListComp elt [⟨tg, iter, ifs, 0⟩] scope pos) 0 (.ref it) acc { cenv with scope := relabel scope X.env }) (RR acc cenv.locals) s₄) E s₃) E s2 := by
  refine wpAny_newObj_type (wpAny_newFunctionEnv ok.nocell (by intro y hy; simp at hy) (fun h₁ hns₁ hsb₁ => ?_) ok.kind)
  dsimp only at hns₁ hsb₁ ⊢
  generalize hP2 : s2.heap.push { cls := .type "list", dict := none, data := .seq ([] : List Value).toArray } = P2 at hns₁ hsb₁ ⊢
  have hC : P2.objs.size = s2.heap.objs.size + 1 := by rw [← hP2, Heap.size_push]
  have hDC : s2.heap.objs.size ≠ P2.objs.size := by rw [hC]; exact Nat.ne_of_lt (Nat.lt_succ_self _)
  have hCle : s2.heap.objs.size ≤ P2.objs.size := by rw [hC]; exact Nat.le_succ _
  have below : ∀ b, b < s2.heap.objs.size → b ≠ P2.objs.size ∧ b ≠ s2.heap.objs.size := fun b hb => ⟨by rw [hC]; exact Nat.ne_of_lt (Nat.lt_succ_of_lt hb), Nat.ne_of_lt hb⟩
  have ltf : ∀ b ∈ fp, b < s2.heap.objs.size := fun b hb => by
    obtain ⟨o, e, _⟩ := T.obj 0 _ st2 b hb
    exact Heap.lt_size e
  have old : ∀ b o, s2.heap.get? b = some o → h₁.get? b = some o := fun b o e => hsb₁.extBut b o (below b (Heap.lt_size e)).1 (Heap.get?_push_of_some _ (hP2 ▸ Heap.get?_push_of_some _ e))
  have hacc : h₁.PlainList s2.heap.objs.size #[] := ⟨_, hsb₁.extBut _ _ hDC (Heap.get?_push_of_some _ (hP2 ▸ Heap.get?_push_size _ rfl))⟩
  have st₁ : tn 0 h₁ := T.keep _ _ _ st2 fun b _ o e => old b o e
  have hDno : ∀ b ∈ fp, s2.heap.objs.size ≠ b := fun b hb => (below b (ltf b hb)).2.symm
  generalize hXe : cxComp X scope P2.objs.size (compN N0 own cap) s2 H2 fp = X'
  have loop : ∀ s₃ : Shared, s₃ = { s2 with heap := h₁, toks := s2.toks + ([] : List (Str × Value)).length } →
      codeAny (model X.prog X.w) X.A (.compLoop (.ListComp elt [⟨tg, iter, ifs, 0⟩] scope pos) 0 (.ref it) (.ref s2.heap.objs.size) (compEnvC scope (closOf scope X.env) P2.objs.size X.env))
        (RR (.ref s2.heap.objs.size) P2.objs.size) s₃ := by
    rintro s₃ rfl
    obtain ⟨W, ⟨m0, w0⟩, turn⟩ := hW
    subst hXe
    have stat : ∀ {H' : Hp} {oD : Obj}, (∀ b ∈ fp, H' b = none) → ∀ b ∈ fp, FpOk (cxComp X scope P2.objs.size (compN N0 own cap) s2 H2 fp) [(s2.heap.objs.size, oD)] H' b := fun {H' oD} hn b hb =>
      ⟨hn b hb, (below b (ltf b hb)).1, fun z => by
        rcases List.mem_cons.mp (I2.stkSub b z) with z | z
        · exact (f2 b hb).2.1 z
        · exact (f2 b hb).2.2.1 z, .inl hb, fun x c h => (f2 b hb).2.2.2.2.1 x c (clos_lookup I2 hsc ok h), fun p hp => by
        have e : p = (s2.heap.objs.size, oD) := by simpa [cxComp] using hp
        rw [e]; exact hDno b hb⟩
    have notcell : ∀ x c, (closOf scope X.env).lookup x = some c → c ≠ s2.heap.objs.size := fun x c h z => by
      obtain ⟨v, o, ho, hd⟩ := I2.cell x c (clos_lookup I2 hsc ok h)
      exact absurd (Heap.lt_size ho) (by rw [z]; exact Nat.lt_irrefl _)
    have nofs : s2.heap.objs.size ∉ frs X.stack := fun z => by
      rcases List.mem_cons.mp (I2.stkSub _ z) with z | z
      · exact absurd I2.lt (by rw [z]; exact Nat.lt_irrefl _)
      · exact I2.nofs (Nat.le_refl _) z
    have pinD : ∀ {σ' : St} {H' : Hp} {s' : Shared} {its : Array Value} {k : Nat}, Inv (cxComp X scope P2.objs.size (compN N0 own cap) s2 H2 fp) [] σ' H' s' → H' s2.heap.objs.size = none →
        s'.heap.get? s2.heap.objs.size = some { cls := .type "list", data := .seq its k } → Inv (cxComp X scope P2.objs.size (compN N0 own cap) s2 H2 fp) [(s2.heap.objs.size, { cls := .type "list", data := .seq its k })] σ' H' s' :=
      fun {σ' H' s' its k} I hn hd => I.pins_of fun p hp => by
        have e : p = (s2.heap.objs.size, { cls := .type "list", data := .seq its k }) := by simpa using hp
        subst e
        exact ⟨hd, hn, hDC, nofs, fun v z => by cases z⟩
    obtain ⟨k0, hk0⟩ := hacc
    refine codeAny_compLoop_go (env := compEnvC scope (closOf scope X.env) P2.objs.size X.env)
      (fun n s' => ∃ i ys its k σ' H', Inv (cxComp X scope P2.objs.size (compN N0 own cap) s2 H2 fp) [(s2.heap.objs.size, { cls := .type "list", data := .seq its k })] σ' H' s' ∧ tn i s'.heap ∧ (∀ b ∈ fp, H' b = none) ∧ Vals ys its.toList ∧ W i n ys σ' H') ?_ m0
      ⟨0, [], #[], k0, _, H2, pinD (comp_inv I2 hsc hN0 ok T st2 f2 _ hCle old hns₁) (I2.hok.fresh (Nat.le_refl _)) hk0, st₁, fun b hb => (f2 b hb).1, .nil, w0⟩
    rintro n s3 ⟨i, ys, its, k, σ3, H3, I3, st3, fr3, hv, w3⟩
    rcases turn i n ys σ3 H3 w3 with ⟨stop, qn⟩ | ⟨go, hsz, N, hN, step⟩
    · refine thn (T.done (cxComp X scope P2.objs.size (compN N0 own cap) s2 H2 fp) rfl rfl rfl hc i _ s3 σ3 H3 _ I3 (stat fr3) st3 stop) fun r s4 ⟨hr, I4⟩ => ?_
      subst hr
      show RR _ _ (.ok .next) s4
      obtain ⟨hd4, hn4, _⟩ := I4.pin (s2.heap.objs.size, { cls := .type "list", data := .seq its k }) (by simp [cxComp])
      dsimp only at hd4 hn4
      obtain ⟨m4, hns4, _⟩ := id I4.loc
      have hns4' : s4.heap.Ns P2.objs.size m4 := hns4
      obtain ⟨oC, es, ep, hoC, rC⟩ := id hns4'
      have cne : P2.objs.size ≠ s2.heap.objs.size := hDC.symm
      have freeC : H3 P2.objs.size = none := I4.free
      have hchC : FpOk X pins (upd H3 s2.heap.objs.size (.lst ys)) P2.objs.size := I2.fpOk hCle (by rw [upd_ne cne]; exact freeC)
      have hlen : ys.length = its.size := by have e := hv.length; simpa using e
      have I5 : Inv X pins σ (upd H3 s2.heap.objs.size (.lst ys)) s4 := by
        refine I2.call' (ch := fp) I4.os ⟨I4.base.keep, I4.base.slot, fun b o e n hx => ?_, I4.base.there, fun b xs e => ?_, fun b o u e => ?_, fun b ps e => ?_⟩ (fun b u e => ?_) I4.bare fun b hb => ?_
        · rw [upd_ne (Nat.ne_of_lt (Heap.lt_size e))]; exact I4.base.free b o e n hx
        · have q := I4.base.tups b xs e
          rw [upd_ne (ne_of_none q hn4)]; exact q
        · have q := I4.base.frzs b o u e
          rw [upd_ne (ne_of_none q hn4)]; exact q
        · obtain ⟨more, q⟩ := I4.base.tbls b ps e
          exact ⟨more, by rw [upd_ne (ne_of_none q hn4)]; exact q⟩
        · by_cases hb : b = s2.heap.objs.size
          · subst hb
            rw [upd_same] at e
            cases e
            exact ⟨hQsz ys H3 qn, its.toList, k, hv, by simpa using hd4⟩
          · rw [upd_ne hb] at e
            exact (I4.hok b u e).stay (fun _ _ _ q => q) (fun c q => by rw [upd_ne (ne_of_none q hn4)]; exact q) fun c xs q => by rw [upd_ne (ne_of_none q hn4)]; exact q
        · obtain ⟨_, a2, _, a4, a5, a6⟩ := f2 b hb
          exact ⟨a4, a2, a5, a6⟩
      refine hRR s2.heap.objs.size P2.objs.size oC ys H3 s4 (I5.pins_of fun p hp => ?_) (fun h e => ⟨m4, oC, es, ep, e, rC⟩) hchC hn4 qn
      rcases List.mem_append.mp hp with z | z
      · exact I5.pin p (List.mem_append_right _ z)
      · have e : p = (P2.objs.size, oC) := by simpa using z
        subst e
        exact ⟨hoC, hchC.1, hchC.2.1, hchC.2.2.1, fun v z => by
          have := rC.1
          rw [this] at z; cases z⟩
    · refine thn (T.item (cxComp X scope P2.objs.size (compN N0 own cap) s2 H2 fp) rfl rfl rfl hc i _ s3 σ3 H3 _ I3 (stat fr3) st3 go) fun r s4 ⟨u, hr, h4⟩ => ?_
      subst hr
      refine thn h4 fun _ s5 ⟨x, H5, I5, r5, y5, st5, fr5⟩ => ?_
      have I5' := I5.pinned (stat fr5) (T.obj _ _ st5)
      refine thn (hg _ _ _ _ _ s5 σ3 H5 x u _ I5' r5 (step x H5 y5)) fun _ s6 ⟨σ6, H6, I6, q6⟩ => ?_
      refine thn (ht _ _ _ _ _ s6 σ6 H6 _ I6 q6) fun b s7 ⟨H7, I7, q7⟩ => ?_
      have keepT : ∀ {σ' : St} {H' : Hp} {s' : Shared}, Inv (cxComp X scope P2.objs.size (compN N0 own cap) s2 H2 fp) ([(s2.heap.objs.size, { cls := .type "list", data := .seq its k })] ++ pinsAt fp s5.heap) σ' H' s' → tn (i + 1) s'.heap ∧ ∀ b ∈ fp, H' b = none := fun {σ' H' s'} I' => by
        refine ⟨T.keep _ _ _ st5 fun b hb o e => (I'.pin (b, o) (List.mem_append_right _ (List.mem_append_right _ (mem_pinsAt hb e)))).1, fun b hb => ?_⟩
        obtain ⟨o, e, d⟩ := T.obj _ _ st5 b hb
        exact (I'.pin (b, o) (List.mem_append_right _ (List.mem_append_right _ (mem_pinsAt hb e)))).2.1
      cases b with
      | false =>
        rw [if_neg Bool.false_ne_true] at q7 ⊢
        obtain ⟨m', hm, w7⟩ := hN _ _ _ q7
        obtain ⟨a, b⟩ := keepT I7
        exact ⟨m', hm, i + 1, ys, its, k, σ6, H7, I7.unpinned, a, b, hv, w7⟩
      | true =>
        rw [if_pos rfl] at q7 ⊢
        refine thn (he _ _ _ _ _ s7 σ6 H7 _ I7 q7) fun v s8 ⟨y, H8, I8, r8, q8⟩ => ?_
        obtain ⟨m', hm, w8⟩ := hN _ _ _ q8
        obtain ⟨a, b⟩ := keepT I8
        obtain ⟨hd8, hn8, _⟩ := I8.pin (s2.heap.objs.size, { cls := .type "list", data := .seq its k }) (by simp [cxComp])
        dsimp only at hd8 hn8
        have hl : its.size ≤ sizeLine := by
          have e := hv.length
          simp at e
          omega
        refine wpAny_list_append_plain (hsz := hl) ⟨k, hd8⟩ fun h9 hl9 hs9 => ?_
        obtain ⟨k9, hd9⟩ := hl9
        have I8' : Inv (cxComp X scope P2.objs.size (compN N0 own cap) s2 H2 fp) [] σ6 H8 s8 := I8.pins_of fun p hp => absurd hp (by simp)
        have I9 : Inv (cxComp X scope P2.objs.size (compN N0 own cap) s2 H2 fp) [] σ6 H8 { s8 with heap := h9 } :=
          I8'.turned (t' := s8.toks) (it := s2.heap.objs.size) (fun b o hb e => hs9.extBut b o hb e) hn8 hDC (.inr (Nat.le_refl _)) notcell (fun p hp => absurd (show p ∈ ([] : List (Addr × Obj)) from hp) (by simp))
        refine ⟨m', hm, i + 1, ys ++ [y], its.push v, k9, σ6, H8, pinD I9 hn8 hd9, T.keep _ _ _ a fun b hb o e => hs9.extBut b o (hDno b hb).symm e, b, ?_, w8⟩
        rw [Array.toList_push]
        exact hv.append (.cons r8 .nil)
  exact codeAny_compStart_list (loop _ rfl) (T.self _ 0 _ _ _ st₁ (loop _ rfl))
theorem pe_comp {wi : TI} (sc0 : Scope) (N0 own : List Str) (cap : List Nat) (hc : X.calm = true) (hi : PI X tg iter wi)
    (hg : ∀ C s H ex, PG (cxComp X scope C (compN N0 own cap) s H ex) tg g) (ht : ∀ C s H ex, PIfs (cxComp X scope C (compN N0 own cap) s H ex) ifs tt) (he : ∀ C s H ex, PE (cxComp X scope C (compN N0 own cap) s H ex) elt te)
    (hsc : X.env.scope = sc0 := by rfl) (hN0 : X.N = N0 := by rfl) (ok : compOk sc0 N0 scope own cap = true := by decide +kernel) (hs : ∀ x, foldedSetIterable iter X.env x = pure x := by intro _; rfl) :
    PE X (.ListComp elt [⟨tg, iter, ifs, 0⟩] scope pos) (tComp wi own cap g tt te) := by
  intro pins s σ H Q I h
  have ok := CompOk.of ok
  rw [eval_ListComp]
  refine wpAny_comprehension_free (use := none) rfl hs (closureFor_eq (clos_has I hsc ok)) ok.kind ok.names (thn (hi pins s σ H _ I h) fun xv s1 h1 => thn h1 fun itv s2 h2 => ?_)
  obtain ⟨it, fp, tn, J, H2, e, I2, T, st2, f2, hW⟩ := h2
  subst e
  refine comp_block (RR := fun acc C => compPost (model X.prog X.w) X.A X.xe none (EP X pins σ Q) acc C) hc I2 hsc hN0 ok hg ht he T st2 f2 hW (fun D C oC ys H' s' I' hns fpC hD q => ?_) fun ys H' q => q.1
  obtain ⟨hC, hCn, _⟩ := I'.pin (C, oC) (by simp)
  obtain ⟨m, hm⟩ := hns _ hC
  refine ⟨m, hm, fun h' hs' => ⟨.ref D, upd H' D (.lst ys), ?_, rfl, q.2 D hD⟩⟩
  obtain ⟨f0, f1, f2', f3, f4, f5⟩ := fpC
  exact I'.unpinned.turned (t' := s'.toks) (it := C) (fun b o hb e => hs'.extBut b o hb e) f0 f1 f3 f4 f5
end
end L2
namespace L2
open PySem PySem.Spec PyProof.Rows
def Can (P : Program) (w : World) (K : PySem.W.Frag) (mg : Str → Option Value) (base : Heap) (x : Str) (ps : List Str) (k : Nat) (sp : Sp) : Prop :=
  ∃ f fd, mg x = some (.ref f) ∧ PySem.W.keepIn K (.ref f) = true ∧ Binds K fd ps [] ∧ FnOk P w K mg base CX0 k f fd ps sp ∧ ∃ oc od osl, K.lookup f = some ⟨oc, od, .func fd, osl⟩
def Def (K : PySem.W.Frag) (mg : Str → Option Value) (x : Str) (st : Stmt) : Prop := ∃ f fd, mg x = some (.ref f) ∧ Fun K x x st f fd
section
variable {P : Program} {w : World} {K : PySem.W.Frag} {mg : Str → Option Value} {base : Heap}
theorem Can.mono {x : Str} {ps : List Str} {j k : Nat} {sp : Sp} (c : Can P w K mg base x ps j sp) (h : j ≤ k) : Can P w K mg base x ps k sp :=
  let ⟨f, fd, a, b, d, e, g⟩ := c; ⟨f, fd, a, b, d, e.mono h, g⟩
theorem Def.can {x : Str} {st : Stmt} {N ps : List Str} {k : Nat} {sp : Sp} (D : Def K mg x st) (S : FnScope N ps (defScope st))
    (hb : ∀ (kV doc pm : Value) (an : Option Addr) (cdv ct : Value) (us : List Value), us.length = ps.length → bindArgs (PySem.W.fnOf x x (defArgs st) (defBody st) (defScope st) .none kV doc pm an cdv ct) ⟨us, []⟩ = pure (ps.zip us))
    (len : ∀ vs H Q E, sp vs H Q E → vs.length = ps.length)
    (hbody : ∀ (f : Addr) (cdv : Value) (A : Around) (outer : List Env) (s : Shared) (H : Hp) (vs : List V) (Q : VK) (E : XK), Room k (A.deeper (envOfC x (defScope st) s.heap.objs.size f cdv)) → sp vs H Q E →
      ∃ t, PSs (cxOf CX0 P w K mg base N x (defScope st) f cdv A outer s H E).nox (defBody st) t ∧ t { nx := fun _ H' => Q .non H', rt := Q } (start N vs) H) : Can P w K mg base x ps (k + 1) sp := by
  obtain ⟨f, fd, hm, F⟩ := D
  obtain ⟨oc, od, _, _, _, _, _, _, osl, _, lk, _⟩ := F.ex
  exact ⟨f, fd, hm, F.kp, F.binds hb, F.ok S len fun cdv A outer s H vs Q E hr h => hbody f cdv A outer s H vs Q E hr h, oc, od, osl, lk⟩
end
section
variable {X : Cx} {k : Nat} {x : Str} {ps : List Str} {sp : Sp} {p pos : Pos} {e : Expr} {es : List Expr} {t : TA}
theorem pe_can (C : Can X.prog X.w X.K X.mg X.base x ps k sp) (hr : Room k X.A) (ha : PA X (e :: es) t) (hg : Gl X x := by rfl) (hdb : (x == ("__debug__" : Str)) = false := by decide)
    (he : starEach (e :: es) X.env = (false, eval e X.env) :: starEach es X.env := by rfl) (hpl : (backTo pos (starEach es X.env)).any (·.1) = false := by rfl) :
    PE X (.Call (.Name x p) (e :: es) [] pos) (tCall sp [] E0 t) := by
  obtain ⟨f, fd, hm, hk, hb, F, _⟩ := C
  exact pe_call F hr hg hm hk hb .nil pass0 ha hdb he hpl
theorem pe_can0 (C : Can X.prog X.w X.K X.mg X.base x ps k sp) (hr : Room k X.A) (hg : Gl X x := by rfl) (hdb : (x == ("__debug__" : Str)) = false := by decide) :
    PE X (.Call (.Name x p) [] [] pos) (tCall sp [] E0 tNil) := by
  obtain ⟨f, fd, hm, hk, hb, F, _⟩ := C
  exact pe_call0 F hr hg hm hk hb .nil pass0 hdb
end
theorem Same.seqT {K : PySem.W.Frag} {H H' : Hp} {a : Addr} {xs : List V} (e : Same H H') (h : SqT K H a xs) : SqT K H' a xs := by
  rcases h with (h | ⟨o, h⟩) | h
  · exact .inl (.inl (e _ _ h))
  · exact .inl (.inr ⟨o, e _ _ h⟩)
  · exact .inr h
theorem Same.upd {H : Hp} {a : Addr} {o : HO} (h : H a = none) : Same H (upd H a o) := fun b u e => by rw [upd_ne (ne_of_none e h)]; exact e
mutual
def Rep (K : PySem.W.Frag) (H : Hp) : V → PyData → Prop
  | v, .none => v = .non
  | v, .bool b => v = .bl b
  | v, .int i => v = .int i
  | v, .str x => v = .str x
  | v, .list ds => ∃ a xs, v = .ref a ∧ SqL K H a xs ∧ Reps K H xs ds
  | v, .tuple ds => ∃ a xs, v = .ref a ∧ SqT K H a xs ∧ Reps K H xs ds
  | _, .dict _ => False
def Reps (K : PySem.W.Frag) (H : Hp) : List V → List PyData → Prop
  | xs, [] => xs = []
  | xs, d :: ds => ∃ x r, xs = x :: r ∧ Rep K H x d ∧ Reps K H r ds
end
mutual
theorem Rep.mono {K : PySem.W.Frag} {H H' : Hp} (e : Same H H') : ∀ (d : PyData) {v : V}, Rep K H v d → Rep K H' v d
  | .none, v, h => by rw [Rep] at h ⊢; exact h
  | .bool b, v, h => by rw [Rep] at h ⊢; exact h
  | .int i, v, h => by rw [Rep] at h ⊢; exact h
  | .str x, v, h => by rw [Rep] at h ⊢; exact h
  | .list ds, v, h => by
    rw [Rep] at h ⊢
    obtain ⟨a, xs, h1, h2, h3⟩ := h
    exact ⟨a, xs, h1, e.seq h2, Reps.mono e ds h3⟩
  | .tuple ds, v, h => by
    rw [Rep] at h ⊢
    obtain ⟨a, xs, h1, h2, h3⟩ := h
    exact ⟨a, xs, h1, e.seqT h2, Reps.mono e ds h3⟩
  | .dict _, v, h => by rw [Rep] at h; exact h.elim
theorem Reps.mono {K : PySem.W.Frag} {H H' : Hp} (e : Same H H') : ∀ (ds : List PyData) {xs : List V}, Reps K H xs ds → Reps K H' xs ds
  | [], xs, h => by rw [Reps] at h ⊢; exact h
  | d :: ds, xs, h => by
    rw [Reps] at h ⊢
    obtain ⟨x, r, h1, h2, h3⟩ := h
    exact ⟨x, r, h1, Rep.mono e d h2, Reps.mono e ds h3⟩
end
theorem Reps.nil {K : PySem.W.Frag} {H : Hp} : Reps K H [] [] := by rw [Reps]
theorem Reps.cons {K : PySem.W.Frag} {H : Hp} {x : V} {xs : List V} {d : PyData} {ds : List PyData} (h : Rep K H x d) (hs : Reps K H xs ds) : Reps K H (x :: xs) (d :: ds) := by
  rw [Reps]; exact ⟨x, xs, rfl, h, hs⟩
theorem Reps.un {K : PySem.W.Frag} {H : Hp} {xs : List V} {d : PyData} {ds : List PyData} (h : Reps K H xs (d :: ds)) : ∃ x r, xs = x :: r ∧ Rep K H x d ∧ Reps K H r ds := by rw [Reps] at h; exact h
theorem Reps.un0 {K : PySem.W.Frag} {H : Hp} {xs : List V} (h : Reps K H xs []) : xs = [] := by rw [Reps] at h; exact h
theorem Rep.unL {K : PySem.W.Frag} {H : Hp} {v : V} {ds : List PyData} (h : Rep K H v (.list ds)) : ∃ a xs, v = .ref a ∧ SqL K H a xs ∧ Reps K H xs ds := by rw [Rep] at h; exact h
theorem Rep.unT {K : PySem.W.Frag} {H : Hp} {v : V} {ds : List PyData} (h : Rep K H v (.tuple ds)) : ∃ a xs, v = .ref a ∧ SqT K H a xs ∧ Reps K H xs ds := by rw [Rep] at h; exact h
theorem Rep.unS {K : PySem.W.Frag} {H : Hp} {v : V} {x : Str} (h : Rep K H v (.str x)) : v = .str x := by rw [Rep] at h; exact h
theorem Rep.unI {K : PySem.W.Frag} {H : Hp} {v : V} {x : Int} (h : Rep K H v (.int x)) : v = .int x := by rw [Rep] at h; exact h
theorem Rep.s {K : PySem.W.Frag} {H : Hp} {x : Str} : Rep K H (.str x) (.str x) := by rw [Rep]
theorem Rep.i {K : PySem.W.Frag} {H : Hp} {x : Int} : Rep K H (.int x) (.int x) := by rw [Rep]
theorem Rep.b {K : PySem.W.Frag} {H : Hp} {x : Bool} : Rep K H (.bl x) (.bool x) := by rw [Rep]
theorem Reps.length {K : PySem.W.Frag} {H : Hp} : ∀ {ds : List PyData} {xs : List V}, Reps K H xs ds → xs.length = ds.length
  | [], xs, h => by rw [Reps] at h; rw [h]; rfl
  | d :: ds, xs, h => by
    rw [Reps] at h
    obtain ⟨x, r, rfl, _, h3⟩ := h
    simp [Reps.length h3]
theorem Reps.get {K : PySem.W.Frag} {H : Hp} : ∀ {ds : List PyData} {xs : List V} {i : Nat} {x : V}, Reps K H xs ds → xs[i]? = some x → ∃ d, ds[i]? = some d ∧ Rep K H x d
  | [], xs, i, x, h, e => by rw [Reps] at h; rw [h] at e; simp at e
  | d :: ds, xs, i, x, h, e => by
    rw [Reps] at h
    obtain ⟨y, r, rfl, h2, h3⟩ := h
    cases i with
    | zero => simp at e; subst e; exact ⟨d, rfl, h2⟩
    | succ i =>
      obtain ⟨d', e', q⟩ := Reps.get (i := i) (x := x) h3 (by simpa using e)
      exact ⟨d', by simpa using e', q⟩
theorem Reps.snoc {K : PySem.W.Frag} {H : Hp} {x : V} {d : PyData} (hx : Rep K H x d) : ∀ {ds : List PyData} {xs : List V}, Reps K H xs ds → Reps K H (xs ++ [x]) (ds ++ [d])
  | [], xs, h => by rw [Reps] at h; rw [h]; exact Reps.cons hx Reps.nil
  | e :: ds, xs, h => by
    rw [Reps] at h
    obtain ⟨y, r, rfl, h2, h3⟩ := h
    exact Reps.cons h2 (Reps.snoc hx h3)
theorem Reps.append {K : PySem.W.Frag} {H : Hp} {ys : List V} {es : List PyData} (hy : Reps K H ys es) : ∀ {ds : List PyData} {xs : List V}, Reps K H xs ds → Reps K H (xs ++ ys) (ds ++ es)
  | [], xs, h => by rw [Reps] at h; rw [h]; exact hy
  | e :: ds, xs, h => by
    rw [Reps] at h
    obtain ⟨y, r, rfl, h2, h3⟩ := h
    exact Reps.cons h2 (Reps.append hy h3)
theorem Reps.take {K : PySem.W.Frag} {H : Hp} : ∀ {ds : List PyData} {xs : List V} (n : Nat), Reps K H xs ds → Reps K H (xs.take n) (ds.take n)
  | _, _, 0, _ => by simpa using Reps.nil
  | [], xs, n + 1, h => by rw [Reps] at h; rw [h]; simpa using Reps.nil
  | d :: ds, xs, n + 1, h => by
    rw [Reps] at h
    obtain ⟨y, r, rfl, h2, h3⟩ := h
    exact Reps.cons h2 (Reps.take n h3)
theorem Reps.drop {K : PySem.W.Frag} {H : Hp} : ∀ {ds : List PyData} {xs : List V} (n : Nat), Reps K H xs ds → Reps K H (xs.drop n) (ds.drop n)
  | _, _, 0, h => by simpa using h
  | [], xs, n + 1, h => by rw [Reps] at h; rw [h]; simpa using Reps.nil
  | d :: ds, xs, n + 1, h => by
    rw [Reps] at h
    obtain ⟨y, r, rfl, h2, h3⟩ := h
    exact Reps.drop n h3
section
variable {X : Cx} {pins : List (Addr × Obj)} {σ : St} {H : Hp} {s : Shared}
mutual
theorem Rep.reads (I : Inv X pins σ H s) : ∀ (d : PyData) {v : V} {u : Value}, Rep X.K H v d → RelV v u → ∃ as, Reads s.heap u d as
  | .none, v, u, h, r => by rw [Rep] at h; subst h; cases (show u = .none from r); exact ⟨_, .none⟩
  | .bool b, v, u, h, r => by rw [Rep] at h; subst h; cases (show u = .bool b from r); exact ⟨_, .bool b⟩
  | .int i, v, u, h, r => by rw [Rep] at h; subst h; obtain ⟨t, rfl⟩ := (show ∃ t, u = .int i t from r); exact ⟨_, .int i t⟩
  | .str x, v, u, h, r => by rw [Rep] at h; subst h; obtain ⟨t, rfl⟩ := (show ∃ t, u = .str x t from r); exact ⟨_, .str x t⟩
  | .list ds, v, u, h, r => by
    rw [Rep] at h
    obtain ⟨a, xs, rfl, h2, h3⟩ := h
    cases (show u = .ref a from r)
    obtain ⟨its, rv, pl, _⟩ := I.list h2
    obtain ⟨as, q⟩ := Reps.reads I ds h3 rv
    obtain ⟨o, ho, hc, n, hd⟩ := pl.isList
    exact ⟨_, .list ho hc hd (by simpa using q)⟩
  | .tuple ds, v, u, h, r => by
    rw [Rep] at h
    obtain ⟨a, xs, rfl, h2, h3⟩ := h
    cases (show u = .ref a from r)
    obtain ⟨its, rv, pl, _⟩ := I.tuple h2
    obtain ⟨as, q⟩ := Reps.reads I ds h3 rv
    obtain ⟨o, ho, hc, n, hd⟩ := pl
    exact ⟨_, .tuple ho hc hd (by simpa using q)⟩
  | .dict _, v, u, h, r => by rw [Rep] at h; exact h.elim
theorem Reps.reads (I : Inv X pins σ H s) : ∀ (ds : List PyData) {xs : List V} {us : List Value}, Reps X.K H xs ds → Vals xs us → ∃ as, ReadsAll s.heap us ds as
  | [], xs, us, h, r => by rw [Reps] at h; subst h; cases r; exact ⟨_, .nil⟩
  | d :: ds, xs, us, h, r => by
    rw [Reps] at h
    obtain ⟨x, rest, rfl, h2, h3⟩ := h
    cases r with
    | cons r1 r2 =>
      obtain ⟨as, q⟩ := Rep.reads I d h2 r1
      obtain ⟨bs, q'⟩ := Reps.reads I ds h3 r2
      exact ⟨_, .cons q q'⟩
end
end
def okD (d : PyData) : Bool := d.canLay0 && decide (d.depth ≤ 60)
def rEqD (K : PySem.W.Frag) (neg : Bool) : R2 := fun x y H Q => ∃ d e, Rep K H x d ∧ Rep K H y e ∧ okD d = true ∧ okD e = true ∧ Q (.bl (if neg then !PyData.eqv d e else PyData.eqv d e)) H
section
variable {X : Cx}
theorem op_eqD {k : Nat} (hr : Room k X.A) : OpR X (compareOp .Eq) (rEqD X.K false) := by
  intro pins s σ H x y v u Q I rx ry h
  obtain ⟨d, e, h1, h2, k1, k2, q⟩ := h
  obtain ⟨as, r1⟩ := Rep.reads I d h1 rx
  obtain ⟨bs, r2⟩ := Rep.reads I e h2 ry
  unfold okD at k1 k2
  simp only [Bool.and_eq_true, decide_eq_true_eq] at k1 k2
  exact SeqAt.compareEq_reads r1 r2 k1.1 k2.1 (by have := hr.units; omega) ⟨.bl _, H, I, rfl, q⟩
theorem op_neD {k : Nat} (hr : Room k X.A) : OpR X (compareOp .NotEq) (rEqD X.K true) := by
  intro pins s σ H x y v u Q I rx ry h
  obtain ⟨d, e, h1, h2, k1, k2, q⟩ := h
  obtain ⟨as, r1⟩ := Rep.reads I d h1 rx
  obtain ⟨bs, r2⟩ := Rep.reads I e h2 ry
  unfold okD at k1 k2
  simp only [Bool.and_eq_true, decide_eq_true_eq] at k1 k2
  exact SeqAt.compareNe_reads r1 r2 k1.1 k2.1 (by have := hr.units; omega) ⟨.bl _, H, I, rfl, q⟩
end
def S (l : List Nat) : Str := ⟨l.toArray⟩
theorem S_cps (l : List Nat) : (S l).cps.toList = l := by simp [S]
theorem S_length (l : List Nat) : (S l).length = l.length := by simp [S, Str.length]
theorem S_of (x : Str) : S x.cps.toList = x := by cases x; simp [S]
theorem S_append (a b : List Nat) : S a ++ S b = S (a ++ b) := by
  show Str.mk _ = Str.mk _
  simp [S]
theorem S_inj {a b : List Nat} (h : S a = S b) : a = b := by have := congrArg (fun x : Str => x.cps.toList) h; simpa [S_cps] using this
section
variable {X : Cx}
theorem op_le_str : OpR X (compareOp .LtE) (fun x y H Q => ∃ i j, x = .str i ∧ y = .str j ∧ Q (.bl (!decide (j.cps.toList < i.cps.toList))) H) := by
  intro pins s σ H x y v u Q I rx ry h
  obtain ⟨i, j, rfl, rfl, q⟩ := h
  obtain ⟨t, rfl⟩ := rx
  obtain ⟨t', rfl⟩ := ry
  exact P.le_str ⟨.bl _, H, I, rfl, q⟩
theorem op_notin_one : OpR X (compareOp .NotIn) (fun x y H Q => ∃ c l, x = .str (S [c]) ∧ y = .str (S l) ∧ Q (.bl (!decide (c ∈ l))) H) := by
  intro pins s σ H x y v u Q I rx ry h
  obtain ⟨c, l, rfl, rfl, q⟩ := h
  refine op_notin_str pins s σ H _ _ v u Q I rx ry ⟨S [c], S l, rfl, rfl, ?_⟩
  have e := PySem.StrLaws.found_one (S l) c
  rw [S_cps] at e
  show Q (.bl (!(!(Builtin.Str.occurrences (S l) (S [c]) 0 (S l).length 1).isEmpty))) H
  rw [show S [c] = ⟨#[c]⟩ from rfl, e]
  exact q
def Its (l : List Nat) : It := ⟨fun i _ => i < l.length, fun i H x H' => H' = H ∧ ∃ c, l[i]? = some c ∧ x = .str (S [c]), fun i _ => l.length ≤ i⟩
theorem turn_str {P : Program} {w : World} {K : PySem.W.Frag} {tg : Expr} (l : List Nat) (it : Addr) (t : Tok) : Turn P w K tg (Its l) [it] it (fun i h => h.IsStrIter it "str_ascii_iterator" (S l) t i) where
  mem := by simp
  obj := fun i h st b hb => by
    have e : b = it := by simpa using hb
    subst e
    obtain ⟨o, e, c, d⟩ := st
    exact ⟨o, e, fun v z => by rw [d] at z; cases z⟩
  keep := fun i h h' st k => let ⟨o, ho, r⟩ := st; ⟨o, k it (by simp) o ho, r⟩
  item := by
    intro X hP hw hK hc i pins s σ H E I hf st hg
    subst hP hw hK
    obtain ⟨f0, f1, f2, f3, f4, f5⟩ := hf it (by simp)
    have hg' : i < l.length := hg
    refine wpAny_pyNext_ascii_item st (c := l[i]) (by simp [S, hg']) fun h' st' sb => ?_
    have I1 : Inv X pins σ H { s with heap := h', toks := s.toks + 1 } := I.turned (fun b o hb e => (sb.2 b hb).trans e) f0 f1 f3 f4 f5
    obtain ⟨o, e, c, d⟩ := id st'
    exact ⟨_, rfl, go_of (s := { s with heap := h', toks := s.toks + 1 }) e c d (by decide) ⟨.str (S [l[i]]), H, I1, ⟨_, rfl⟩, ⟨rfl, l[i], by simp [hg'], rfl⟩, st', fun b hb => (hf b hb).1⟩⟩
  done := by
    intro X hP hw hK hc i pins s σ H E I hf st hg
    subst hP hw hK
    obtain ⟨f0, f1, f2, f3, f4, f5⟩ := hf it (by simp)
    have hg' : l.length ≤ i := hg
    exact wpAny_pyNext_ascii_end (I.ok.hd hc) st (by simp [S, hg']) fun h' eb => ⟨rfl, I.turned (t' := s.toks) (fun b o hb e => eb b o hb e) f0 f1 f3 f4 f5⟩
  self := fun _ _ _ _ _ st h => wpAny_pyIter_striter_ascii st h
def ascii (l : List Nat) : Bool := l.all (· < 128)
def iStr (tl : TE) : TI := fun σ H R => tl σ H fun x H1 => ∃ l, x = .str (S l) ∧ ascii l = true ∧ R (Its l) H1
theorem pi_str {tg e : Expr} {tl : TE} (hl : PE X e tl) : PI X tg e (iStr tl) := by
  intro pins s σ H R I h
  refine thn (hl pins s σ H _ I h) fun v s1 ⟨x, H1, I1, r1, q1⟩ => ?_
  obtain ⟨l, e, ha, q⟩ := q1
  subst e
  obtain ⟨t, rfl⟩ := r1
  refine wpAny_pyIter_ascii (by simpa [S, ascii] using ha) ?_
  refine ⟨s1.heap.objs.size, [s1.heap.objs.size], _, _, H1, rfl, I1.kept (t' := s1.toks) fun b o e => Heap.get?_push_of_some _ e, turn_str l _ t, ⟨_, Heap.get?_push_size _ rfl, rfl, rfl⟩, fun b hb => ?_, q⟩
  have e : b = s1.heap.objs.size := by simpa using hb
  subst e
  exact I1.fpOk (Nat.le_refl _) (I1.hok.fresh (Nat.le_refl _))
theorem call_allB (hc : X.calm = true) : CallR X (.builtin "all") (fun xs H Q => ∃ (a : Addr) (bs : List Bool), xs = [.ref a] ∧ SqL X.K H a (bs.map V.bl) ∧ Q (.bl (bs.all id)) H) := by
  intro pins s σ H xs us Q I r h
  obtain ⟨a, bs, rfl, ha, q⟩ := h
  obtain ⟨u, rfl, ru⟩ := vals1 r
  cases ru
  obtain ⟨its, rv, p, hz⟩ := I.list ha
  refine call_all_walk (wpAny_pyIter_list p.isList ?_)
  have hne : a ≠ s.heap.objs.size := Nat.ne_of_lt (Heap.lt_size p.isList.choose_spec.1)
  refine ⟨s.heap.objs.size, _, _, its.toArray.size, _, _, fun i => bs.getD i true, rfl, Walks.list (A := X.A.in1) (I.ok.hd hc) s.heap.objs.size a hne its.toArray,
    ⟨⟨_, Heap.get?_push_size _ rfl, rfl, rfl⟩, p.isList.at fun o e => Heap.get?_push_of_some _ e⟩, fun i v s' Q' E' hv hq => ?_, fun h' tk hk => ?_⟩
  · have hb : (bs.map V.bl)[i]? = some (V.bl (bs.getD i true)) := by
      have hi : i < its.length := by
        have z := Array.getElem?_eq_some_iff.mp hv
        simpa using z.1
      have hl := rv.length
      rw [List.length_map] at hl
      rw [List.getElem?_map, List.getElem?_eq_getElem (by omega), List.getD_eq_getElem?_getD, List.getElem?_eq_getElem (by omega)]
      rfl
    obtain ⟨u, hu, ru⟩ := rv.get hb
    have hv' : its[i]? = some v := by simpa using hv
    rw [hv'] at hu
    cases hu
    cases (show v = .bool _ from ru)
    exact wpAny_truthy_bool hq
  · refine ⟨.bl (bs.all id), H, I.kept fun b o e => hk b o (fun z => ?_) (Heap.get?_push_of_some _ e), ?_, q⟩
    · have z' : b = s.heap.objs.size := by simpa using z
      exact absurd (Heap.lt_size e) (by rw [z']; exact Nat.lt_irrefl _)
    · have hl : its.length = bs.length := by have := rv.length; rw [List.length_map] at this; exact this.symm
      have e : (List.range its.toArray.size).all (fun i => bs.getD i true) = bs.all id := by
        rw [List.size_toArray, hl]
        rw [Bool.eq_iff_iff, List.all_eq_true, List.all_eq_true]
        constructor
        · intro h x hx
          obtain ⟨i, hi, rfl⟩ := List.mem_iff_getElem.mp hx
          have := h i (List.mem_range.mpr hi)
          rw [List.getD_eq_getElem?_getD, List.getElem?_eq_getElem hi] at this
          exact this
        · intro h i hi
          have hi' := List.mem_range.mp hi
          rw [List.getD_eq_getElem?_getD, List.getElem?_eq_getElem hi']
          exact h _ (List.getElem_mem hi')
      show Value.bool _ = Value.bool _
      rw [e]
end
end L2
namespace L2
open PySem PySem.Spec PyProof.Rows
structure Blt (mg : Str → Option Value) : Prop where
  len_ : mg "len" = none
  isinstance_ : mg "isinstance" = none
  all_ : mg "all" = none
  sum_ : mg "sum" = none
  max_ : mg "max" = none
  min_ : mg "min" = none
  int_ : mg "int" = none
  str_ : mg "str" = none
  bool_ : mg "bool" = none
  list_ : mg "list" = none
  tuple_ : mg "tuple" = none
  dict_ : mg "dict" = none
  range_ : mg "range" = none
  enumerate_ : mg "enumerate" = none
  zip_ : mg "zip" = none
section
variable {X : Cx}
theorem pe_const {x : Str} {v : V} {pos : Pos} (h : ∃ u, X.mg x = some u ∧ RelV v u) (hg : Gl X x := by rfl) (hd : (x == ("__debug__" : Str)) = false := by decide) : PE X (.Name x pos) (tC v) := by
  obtain ⟨u, hm, r⟩ := h
  exact pe_glob hg hm r hd
end
def cutN {α : Type} (l : List α) (lo hi : Option Int) : List α := (l.drop (HT.sIx l.length 0 lo)).take (HT.sIx l.length l.length hi - HT.sIx l.length 0 lo)
theorem slice_S (l : List Nat) (lo hi : Option Int) : Txt.slice (S l) lo hi = S (cutN l lo hi) := by
  obtain ⟨h1, h2, h3⟩ := slice_bounds lo hi l.length
  have e : Builtin.Str.strSliceIndices lo hi 1 (S l).length = (List.range (HT.sIx l.length l.length hi - HT.sIx l.length 0 lo)).map (HT.sIx l.length 0 lo + ·) := by
    rw [S_length]
    show sliceRange (sliceBounds lo hi none l.length).1 (sliceBounds lo hi none l.length).2.1 (sliceBounds lo hi none l.length).2.2 = _
    rw [h1, h2, h3, sliceRange_one]
  unfold Txt.slice
  rw [e, pick_run, S_cps]
  split
  · rename_i h
    have hl : HT.sIx l.length l.length hi - HT.sIx l.length 0 lo = l.length := by simpa [S_length] using h
    have hle : HT.sIx l.length l.length hi ≤ l.length := HT.sIx_le _ _ (Nat.le_refl _) hi
    have hlo : HT.sIx l.length 0 lo ≤ l.length := HT.sIx_le _ _ (Nat.zero_le _) lo
    have h0 : HT.sIx l.length 0 lo = 0 := by omega
    have h1 : HT.sIx l.length l.length hi = l.length := by omega
    unfold cutN
    rw [h0, h1]
    simp
  · rfl
section
variable {X : Cx}
def rSlS : V → Option Int → Option Int → Hp → VK → Prop := fun x lo hi H Q => ∃ l, x = .str (S l) ∧ l.length ≤ sizeLine ∧ Q (.str (S (cutN l lo hi))) H
theorem part_of {v : Value} {o : Option Int} (p : IsPart v o) : ∃ q : Option (Int × Tok), v = partValue q ∧ q.map (·.1) = o := by
  cases p with
  | none => exact ⟨none, rfl, rfl⟩
  | int i t => exact ⟨some (i, t), rfl, rfl⟩
theorem sl_str : SlR X rSlS := by
  intro pins s σ H x v vl vu lo hi sl Q I rx hs pl pu h
  obtain ⟨l, rfl, hz, q⟩ := h
  obtain ⟨t, rfl⟩ := rx
  obtain ⟨ql, rfl, e1⟩ := part_of pl
  obtain ⟨qu, rfl, e2⟩ := part_of pu
  refine ⟨"str", _, F.slot_str_getitem.lookup, typeIs_str _ _ _, ?_⟩
  refine wpAny_getItem_str_slice (l := ql) (u := qu) (st := none) hs rfl ?_
  have key : (if ((1 : Int) == 1 && (Builtin.Str.strSliceIndices lo hi 1 (S l).length).length == (S l).length) = true then S l else ⟨((Builtin.Str.strSliceIndices lo hi 1 (S l).length).filterMap ((S l).cps[·]?)).toArray⟩) = S (cutN l lo hi) := slice_S l lo hi
  unfold sliceMade slicePicked
  rw [e1, e2]
  refine post_val_or_str ⟨?_, fun t' k => ?_⟩
  · show (Txt.slice (S l) lo hi).length ≤ _
    exact Nat.le_trans (Txt.slice_le _ _ _) (by rw [S_length]; exact hz)
  · have e3 := slice_S l lo hi
    unfold Txt.slice at e3
    show EP X pins σ Q (.str (if ((1 : Int) == 1 && (Builtin.Str.strSliceIndices lo hi 1 (S l).length).length == (S l).length) = true then S l else ⟨((Builtin.Str.strSliceIndices lo hi 1 (S l).length).filterMap ((S l).cps[·]?)).toArray⟩) t') { s with toks := k }
    rw [e3]
    exact ⟨.str _, H, I.tok k, ⟨t', rfl⟩, q⟩
end
namespace HT2
theorem getItem_tuple_whole {prog : Program} {w : World} {A : Around} {E : Value → Shared → Prop} {s : Shared} {t sl : Addr} {items : Array Value} {vl vu : Value} {lo hi : Option Int} {Q : Value → Shared → Prop} (ht : IsTup s.heap t items) (hs : s.heap.IsSliceOf sl vl vu .none) (pl : IsPart vl lo) (pu : IsPart vu hi)
    (hw : HT.sIx items.size 0 lo = 0 ∧ HT.sIx items.size items.size hi = items.size) (h : Q (.ref t) s) : wpAny (model prog w) A (getItem (.ref t) (.ref sl)) Q E s := by
  obtain ⟨os, hos, hcs, hds⟩ := id hs
  have hTs : s.TypeIs (.ref sl) "slice" := ⟨os, hos, hcs⟩
  unfold getItem
  try with_reducible refine wpAny_holding ?_
  first | refine wpAny_bind (wpAny_pure ?_) | skip
  refine wpAny_bind (wpAny_sequenceKey ht.typeIs (by decide) ?_)
  refine wpAny_bind (wpAny_callSpecial?_slot (name := Str.ofString "__getitem__") ht.typeIs PyProof.Rows.slot_tuple_getitem
    (wpAny_call_entry PyProof.Rows.slot_tuple_getitem ht.typeIs entry_tuple_getitem ?_ (args_tuple_getitem _ _)))
  show wpAny _ _ (Builtin.Tuple.tupleItemsOf (.ref t) >>= _) _ _ s
  refine wpAny_bind (tupleItemsOf_ ht ?_)
  refine wpAny_bind (wpAny_typeOf hTs ?_)
  rw [if_pos (by decide)]
  refine wpAny_bind (HT.sliceApplied_gen hs pl pu ?_)
  have hyes : (((HT.sIx items.size 0 lo : Nat) : Int) == 0 && (1 : Int) == 1 && (HT.sIx items.size items.size hi - HT.sIx items.size 0 lo) == items.size) = true := by
    rw [hw.1, hw.2]
    simp
  show wpAny _ _ (if (((HT.sIx items.size 0 lo : Nat) : Int) == 0 && (1 : Int) == 1 && (HT.sIx items.size items.size hi - HT.sIx items.size 0 lo) == items.size) = true then _ else _) _ _ s
  rw [if_pos hyes]
  have hex : ∀ {A' : Around} {E' : Value → Shared → Prop} {Q' : Bool → Shared → Prop}, Q' true s → wpAny (model prog w) A' (Builtin.Tuple.tupleIsExact (.ref t)) Q' E' s := fun {A' E' Q'} hq => by
    unfold Builtin.Tuple.tupleIsExact
    exact wpAny_bind (wpAny_typeOf ht.typeIs (wpAny_pure hq))
  refine wpAny_bind (hex ?_)
  rw [if_pos rfl]
  exact wpAny_bind (wpAny_rule (wpAny_pure ⟨_, rfl, wpAny_pure h⟩))
end HT2
section
variable {X : Cx}
def rSlT2 (K : PySem.W.Frag) : V → Option Int → Option Int → Hp → VK → Prop := fun x lo hi H Q => ∃ a xs, x = .ref a ∧ SqT K H a xs ∧
  ((HT.sIx xs.length 0 lo = 0 ∧ HT.sIx xs.length xs.length hi = xs.length) → Q (.ref a) H) ∧ (¬ (HT.sIx xs.length 0 lo = 0 ∧ HT.sIx xs.length xs.length hi = xs.length) → ∀ p, H p = none → Q (.ref p) (upd H p (.tup (cutV xs lo hi))))
theorem sl_tup2 (K : PySem.W.Frag) (hK : X.K = K := by rfl) : SlR X (rSlT2 K) := by
  subst hK
  intro pins s σ H x v vl vu lo hi sl Q I rx hs pl pu h
  obtain ⟨a, xs, rfl, hx, q1, q2⟩ := h
  by_cases hw : HT.sIx xs.length 0 lo = 0 ∧ HT.sIx xs.length xs.length hi = xs.length
  · cases rx
    obtain ⟨its, r, ht, hz⟩ := I.tuple hx
    have hlen : its.toArray.size = xs.length := by rw [List.size_toArray]; exact r.length.symm
    exact ⟨"tuple", _, PyProof.Rows.slot_tuple_getitem.lookup, ht.typeIs, HT2.getItem_tuple_whole ht hs pl pu (by rw [hlen]; exact hw) ⟨.ref a, H, I, rfl, q1 hw⟩⟩
  · exact sl_tup pins s σ H _ v vl vu lo hi sl Q I rx hs pl pu ⟨a, xs, rfl, hx, hw, q2 hw⟩
inductive TyQ (K : PySem.W.Frag) (H : Hp) : V → String → Prop where
  | non : TyQ K H .non "NoneType"
  | bl (x : Bool) : TyQ K H (.bl x) "bool"
  | int (i : Int) : TyQ K H (.int i) "int"
  | str (x : Str) : TyQ K H (.str x) "str"
  | lst {a : Addr} {xs : List V} (e : SqL K H a xs) : TyQ K H (.ref a) "list"
  | tup {a : Addr} {xs : List V} (e : SqT K H a xs) : TyQ K H (.ref a) "tuple"
  | dK {a : Addr} {kvs : List (Key × V)} (e : H a = some (.dK kvs)) : TyQ K H (.ref a) "dict"
def rIsQ (K : PySem.W.Frag) : List V → Hp → VK → Prop := fun xs H Q => ∃ x n t b, xs = [x, .ty n] ∧ TyQ K H x t ∧ PySem.W.kitOne K (.type t) (.type n) = some b ∧ Q (.bl b) H
theorem call_isiK (K : PySem.W.Frag) (hK : X.K = K := by rfl) : CallR X (.builtin "isinstance") (rIsQ K) := by
  subst hK
  intro pins s σ H xs us Q I r h
  obtain ⟨x, n, t, b, rfl, ty, e, q⟩ := h
  obtain ⟨u, c, rfl, r1, r2⟩ := vals2 r
  cases (show c = .type n from r2)
  have fin : ∀ tk, EP X pins σ Q (.bool b) { s with toks := tk } := fun tk => ⟨.bl b, H, I.tok tk, rfl, q⟩
  cases ty with
  | non => exact isinst_ok I r1 .non e fin
  | bl y => exact isinst_ok I r1 (.bl y) e fin
  | int i => exact isinst_ok I r1 (.int i) e fin
  | str y => exact isinst_ok I r1 (.str y) e fin
  | @lst a xs ea =>
    cases (show u = Value.ref a from r1)
    obtain ⟨its, _, p, _⟩ := I.list ea
    obtain ⟨o, ho, hc, _⟩ := p.isList
    exact PySem.W.kia_one PySem.W.kitx_list I.kIn ⟨o, ho, hc⟩ e (fun z => nomatch z) fin
  | @tup a xs ea =>
    cases (show u = Value.ref a from r1)
    obtain ⟨its, _, p, _⟩ := I.tuple ea
    obtain ⟨o, ho, hc, _⟩ := p
    exact PySem.W.kia_one PySem.W.kitx_tuple I.kIn ⟨o, ho, hc⟩ e (fun z => nomatch z) fin
  | @dK a kvs ea => exact isinst_ok I r1 (.dK ea) e fin
theorem kit_same (K : PySem.W.Frag) (n : String) : PySem.W.kitOne K (.type n) (.type n) = some true := by
  unfold PySem.W.kitOne
  rw [if_pos (beq_self_eq_true _)]
end
theorem lay_all : ∀ {ds : List PyData}, (∀ d ∈ ds, d.canLay0 = true) → PyData.canLayAll0 ds = true
  | [], _ => rfl
  | d :: ds, h => by rw [PyData.canLayAll0, h d List.mem_cons_self, lay_all fun x hx => h x (List.mem_cons_of_mem _ hx)]; rfl
theorem deep_all {n : Nat} : ∀ {ds : List PyData}, (∀ d ∈ ds, d.depth ≤ n) → PyData.depthAll ds ≤ n
  | [], _ => by rw [PyData.depthAll]; exact Nat.zero_le _
  | d :: ds, h => by
    rw [PyData.depthAll]
    exact Nat.max_le.mpr ⟨h d List.mem_cons_self, deep_all fun x hx => h x (List.mem_cons_of_mem _ hx)⟩
theorem ok_list {n : Nat} (hn : n < 60) {ds : List PyData} (h : ∀ d ∈ ds, d.canLay0 = true ∧ d.depth ≤ n) : okD (.list ds) = true := by
  unfold okD
  rw [Bool.and_eq_true]
  refine ⟨?_, decide_eq_true ?_⟩
  · show PyData.canLayAll0 ds = true
    exact lay_all fun d hd => (h d hd).1
  · show PyData.depthAll ds + 1 ≤ 60
    have := deep_all fun d hd => (h d hd).2
    omega
end L2
namespace L2
open PySem PySem.Spec PyProof.Rows
section
variable {X : Cx}
theorem op_isnotB : OpR X (compareOp .IsNot) (fun x y H Q => ∃ a b, x = .bl a ∧ y = .bl b ∧ Q (.bl (!(a == b))) H) := by
  intro pins s σ H x y v u Q I rx ry h
  obtain ⟨a, b, rfl, rfl, q⟩ := h
  cases rx
  cases ry
  exact isnot_bool ⟨.bl (a != b), H, I, rfl, q⟩
theorem strsAre_of : ∀ {ls : List (List Nat)} {us : List Value}, Vals (ls.map fun l => V.str (S l)) us → StrsAre us (ls.map S)
  | [], us, r => by rw [List.map_nil] at r; cases r; exact .nil
  | l :: ls, us, r => by
    rw [List.map_cons] at r
    cases r with
    | cons r1 r2 =>
      obtain ⟨t, e⟩ := r1
      subst e
      exact .cons _ t (strsAre_of r2)
theorem glue_S : ∀ (ls : List (List Nat)) (a : Array Nat), (ls.map S).foldl (fun acc p => acc ++ (S []).cps ++ p.cps) a = a ++ ls.flatten.toArray
  | [], a => by simp
  | l :: ls, a => by
    rw [List.map_cons, List.foldl_cons, glue_S ls]
    simp [S]
theorem join_S (ls : List (List Nat)) : Txt.join (S []) (ls.map S) = S ls.flatten := by
  show Builtin.Str.glued (S []) (ls.map S) = _
  unfold Builtin.Str.glued
  cases ls with
  | nil => rfl
  | cons l ls =>
    show Str.mk ((ls.map S).foldl (fun acc p => acc ++ (S []).cps ++ p.cps) (S l).cps) = _
    rw [glue_S]
    simp [S]
def rJoin (K : PySem.W.Frag) : V → List V → Hp → VK → Prop := fun x vs H Q => ∃ (p : Addr) (ls : List (List Nat)), x = .str (S []) ∧ vs = [.ref p] ∧ SqL K H p (ls.map fun l => V.str (S l)) ∧ (ls.map List.length).sum ≤ 1000000 ∧ Q (.str (S ls.flatten)) H
theorem mt_joinK (K : PySem.W.Frag) (hK : X.K = K := by rfl) : MtR X "str.join" (rJoin K) := by
  subst hK
  intro pins s σ H x xs v us Q I rx rs h
  obtain ⟨p, ls, rfl, rfl, hq, hz, q⟩ := h
  obtain ⟨t, rfl⟩ := rx
  obtain ⟨u, rfl, ru⟩ := vals1 rs
  cases ru
  obtain ⟨its, rv, pl, _⟩ := I.list hq
  refine join_list pl.isList (ys := ls.map S) (by simpa using strsAre_of rv) ?_ fun t' k => ⟨.str (S ls.flatten), H, I.tok k, ⟨t', ?_⟩, q⟩
  · have e : ((ls.map S).map (·.length)).sum = (ls.map List.length).sum := by
      rw [List.map_map]
      exact congrArg List.sum (List.map_congr_left fun l _ => S_length l)
    rw [e, S_length]
    simp only [List.length_nil, Nat.mul_zero]
    omega
  · rw [join_S]
def rMulS : R2 := fun x y H Q => ∃ (l : List Nat) (n : Int), x = .str (S l) ∧ y = .int n ∧ -1000000 < n ∧ n < 1000000 ∧ l.length * n.toNat ≤ 16777216 ∧ Q (.str (S (List.replicate n.toNat l).flatten)) H
theorem rep_S (l : List Nat) : ∀ (n : Nat) (a : Array Nat), (List.replicate n (S l).cps).foldl (· ++ ·) a = a ++ (List.replicate n l).flatten.toArray
  | 0, a => by simp
  | n + 1, a => by
    rw [List.replicate_succ, List.foldl_cons, rep_S l n, List.replicate_succ, List.flatten_cons]
    simp [S]
theorem op_mul_str : OpR X (binaryOp .Mult) rMulS := by
  intro pins s σ H x y v u Q I rx ry h
  obtain ⟨l, n, rfl, rfl, h1, h2, h3, q⟩ := h
  obtain ⟨t, rfl⟩ := rx
  obtain ⟨t', rfl⟩ := ry
  have hs : sizeLine = 16777216 := sizeLine_eq
  by_cases hn : n < 1
  · have e0 : n.toNat = 0 := by omega
    rw [e0] at q
    exact P.mul_str_none hn (by omega) ⟨.str (S []), H, I.tok _, ⟨s.toks, rfl⟩, q⟩
  refine P.mul_str ?_ (fun _ _ => ?_) (fun _ _ => ?_) ?_
  · rw [decide_eq_false (by omega), decide_eq_false (by omega)]
    rfl
  · rw [S_length]
    intro hz
    have h4 : (l.length : Int) * n ≤ 16777216 := by
      have : ((l.length * n.toNat : Nat) : Int) ≤ 16777216 := by omega
      rw [Int.natCast_mul, Int.toNat_of_nonneg (by omega)] at this
      exact this
    have h5 : (2 ^ 63 - 1) / n < (l.length : Int) := hz
    have h6 := (Int.ediv_lt_iff_lt_mul (show 0 < n by omega)).mp h5
    omega
  · rw [S_length]
    unfold Builtin.Str.tooLong
    exact decide_eq_false (by omega)
  · rw [if_neg (by omega)]
    by_cases hl : (n == 1 || (S l).length == 0) = true
    · rw [if_pos hl]
      have e : (List.replicate n.toNat l).flatten = l := by
        rw [Bool.or_eq_true, beq_iff_eq, beq_iff_eq, S_length] at hl
        rcases hl with z | z
        · rw [z]
          show (List.replicate 1 l).flatten = l
          simp
        · have z' := List.eq_nil_of_length_eq_zero z
          subst z'
          rw [List.flatten_eq_nil_iff]
          intro x hx
          exact (List.mem_replicate.mp hx).2
      rw [e] at q
      exact ⟨.str (S l), H, I, ⟨t, rfl⟩, q⟩
    · rw [if_neg hl, rep_S]
      refine ⟨?_, .str (S (List.replicate n.toNat l).flatten), H, I.tok _, ⟨s.toks, ?_⟩, q⟩
      · show (#[] ++ (List.replicate n.toNat l).flatten.toArray).size ≤ sizeLine
        simp only [Array.size_append, List.size_toArray, List.length_flatten, List.map_replicate, List.sum_replicate_nat]
        simp
        rw [Nat.mul_comm]
        omega
      · congr 1
        simp [S]
end
end L2
namespace L2
open PySem PySem.Spec PyProof.Rows
inductive D where
  | non | bl (b : Bool) | int (i : Int) | str (l : List Nat) | lst (ds : List D) | tup (ds : List D) | dic (ks vs : List D) | ob (n : Nat)
inductive Ob where
  | ins (c : Str) (fs : List (Str × D))
  | ml (ds : List D)
  | dt (kvs : List (List Key × D))
abbrev Store := List Ob
abbrev DEnv := List (Option D)
structure Xc where
  cls : Str
  fs : List (Str × D)
inductive Res (α : Type) where
  | ok (a : α) (O : Store) | ex (x : Xc) (O : Store) | no
inductive Fl where
  | nx (ρ : DEnv) (O : Store) | rt (d : D) (O : Store) | bk (ρ : DEnv) (O : Store) | ct (ρ : DEnv) (O : Store) | ex (x : Xc) (O : Store) | no
abbrev M (α : Type) := DEnv → Store → Res α
abbrev MS := DEnv → Store → Fl
def Res.bind {α β : Type} (r : Res α) (f : α → Store → Res β) : Res β := match r with
  | .ok a O => f a O
  | .ex x O => .ex x O
  | .no => .no
theorem Res.bind_ok {α β : Type} {r : Res α} {f : α → Store → Res β} {b : β} {O' : Store} (h : r.bind f = .ok b O') : ∃ a O, r = .ok a O ∧ f a O = .ok b O' := by
  cases r with
  | ok a O => exact ⟨a, O, rfl, h⟩
  | ex x O => cases h
  | no => cases h
def noStar : Expr → Bool
  | .Starred _ _ => false
  | _ => true
theorem starC {e : Expr} {es : List Expr} {env : Env} (h : noStar e = true) : starEach (e :: es) env = (false, eval e env) :: starEach es env := by
  cases e <;> first | rfl | cases h
theorem starAny {pos : Pos} {env : Env} : ∀ {es : List Expr}, es.all noStar = true → (backTo pos (starEach es env)).any (·.1) = false
  | [], _ => by simp [starEach, backTo]
  | e :: es, h => by
    rw [List.all_cons, Bool.and_eq_true] at h
    rw [starC h.1]
    show (false || (backTo pos (starEach es env)).any (·.1)) = false
    rw [starAny h.2]
    rfl
theorem star1 {e : Expr} {env : Env} (h : noStar e = true) : starEach [e] env = [(false, eval e env)] := by rw [starC h]; simp [starEach]
abbrev Frag := PySem.W.Frag
def keyD : Key → D
  | .inl i => .int i
  | .inr x => .str x.cps.toList
def RdK (K : Frag) (H : Hp) (a : Addr) (xs : List V) : Prop := Rd H a (.lst xs) ∨ ∃ (its : List Value) (n : Nat), K.lookup a = some { cls := .type "list", data := .seq its.toArray n } ∧ its.length ≤ sizeLine ∧ Vals xs its
theorem RdK.sq {K : Frag} {H : Hp} {a : Addr} {xs : List V} (h : RdK K H a xs) : SqL K H a xs := by
  rcases h with h | ⟨its, n, h1, h2, h3⟩
  · exact .inl h
  · exact .inr ⟨_, its.toArray, n, h1, rfl, rfl, rfl, by simpa using h2, by simpa using h3⟩
theorem RdK.ok {X : Cx} {pins : List (Addr × Obj)} {σ : St} {H : Hp} {s : Shared} {a : Addr} {xs : List V} (h : RdK X.K H a xs) (I : Inv X pins σ H s) : xs.length ≤ sizeLine ∧ ∃ (its : List Value) (n : Nat), Vals xs its ∧ s.heap.get? a = some { cls := .type "list", data := .seq its.toArray n } := by
  rcases h with h | ⟨its, n, h1, h2, h3⟩
  · exact h.ok I.hok
  · exact ⟨by rw [h3.length]; exact h2, its, n, h3, I.kIn a _ h1⟩
def TqT (K : Frag) (F : Hp) (a : Addr) (xs : List V) : Prop :=
  F a = some (.tup xs) ∨ ∃ (o : Obj) (its : Array Value) (n : Nat), K.lookup a = some o ∧ o.cls = .type "tuple" ∧ o.data = .seq its n ∧ its.size ≤ sizeLine ∧ Vals xs its.toList
theorem TqT.sq {K : Frag} {F : Hp} {a : Addr} {xs : List V} (h : TqT K F a xs) : SqT K F a xs := h.imp .inl id
mutual
def Rp (K : Frag) (F : Hp) (as : List Addr) : V → D → Prop
  | v, .non => v = .non
  | v, .bl b => v = .bl b
  | v, .int i => v = .int i
  | v, .str l => v = .str (S l)
  | v, .lst ds => ∃ a xs, v = .ref a ∧ RdK K F a xs ∧ Rps K F as xs ds
  | v, .tup ds => ∃ a xs, v = .ref a ∧ TqT K F a xs ∧ Rps K F as xs ds
  | v, .dic ks vs => ∃ (a : Addr) (kvs : List (Key × V)), v = .ref a ∧ F a = some (.dK kvs) ∧ ks = kvs.map (fun p => keyD p.1) ∧ Rps K F as (kvs.map (·.2)) vs
  | v, .ob n => ∃ a, v = .ref a ∧ as[n]? = some a
def Rps (K : Frag) (F : Hp) (as : List Addr) : List V → List D → Prop
  | xs, [] => xs = []
  | xs, d :: ds => ∃ x r, xs = x :: r ∧ Rp K F as x d ∧ Rps K F as r ds
end
section
variable {K : Frag} {F F' : Hp} {as as' : List Addr}
theorem Rd.mono {H H' : Hp} {a : Addr} {u : HO} (e : Same H H') (h : Rd H a u) : Rd H' a u := by
  rcases h with h | ⟨o, h⟩
  · exact .inl (e _ _ h)
  · exact .inr ⟨o, e _ _ h⟩
theorem RdK.mono {H H' : Hp} {a : Addr} {xs : List V} (e : Same H H') (h : RdK K H a xs) : RdK K H' a xs := h.imp (fun z => z.mono e) id
mutual
theorem Rp.mono (e : Same F F') (ea : ∀ (n : Nat) (a : Addr), as[n]? = some a → as'[n]? = some a) : ∀ (d : D) {v : V}, Rp K F as v d → Rp K F' as' v d
  | .non, v, h => by rw [Rp] at h ⊢; exact h
  | .bl b, v, h => by rw [Rp] at h ⊢; exact h
  | .int i, v, h => by rw [Rp] at h ⊢; exact h
  | .str x, v, h => by rw [Rp] at h ⊢; exact h
  | .lst ds, v, h => by
    rw [Rp] at h ⊢
    obtain ⟨a, xs, h1, h2, h3⟩ := h
    exact ⟨a, xs, h1, h2.mono e, Rps.mono e ea ds h3⟩
  | .tup ds, v, h => by
    rw [Rp] at h ⊢
    obtain ⟨a, xs, h1, h2, h3⟩ := h
    exact ⟨a, xs, h1, h2.imp (e _ _) id, Rps.mono e ea ds h3⟩
  | .dic ks vs, v, h => by
    rw [Rp] at h ⊢
    obtain ⟨a, kvs, h1, h2, h3, h4⟩ := h
    exact ⟨a, kvs, h1, e _ _ h2, h3, Rps.mono e ea vs h4⟩
  | .ob n, v, h => by
    rw [Rp] at h ⊢
    obtain ⟨a, h1, h2⟩ := h
    exact ⟨a, h1, ea _ _ h2⟩
theorem Rps.mono (e : Same F F') (ea : ∀ (n : Nat) (a : Addr), as[n]? = some a → as'[n]? = some a) : ∀ (ds : List D) {xs : List V}, Rps K F as xs ds → Rps K F' as' xs ds
  | [], xs, h => by rw [Rps] at h ⊢; exact h
  | d :: ds, xs, h => by
    rw [Rps] at h ⊢
    obtain ⟨x, r, h1, h2, h3⟩ := h
    exact ⟨x, r, h1, Rp.mono e ea d h2, Rps.mono e ea ds h3⟩
end
theorem Rp.non : Rp K F as .non .non := by rw [Rp]
theorem Rp.bl {b : Bool} : Rp K F as (.bl b) (.bl b) := by rw [Rp]
theorem Rp.int {i : Int} : Rp K F as (.int i) (.int i) := by rw [Rp]
theorem Rp.str {l : List Nat} : Rp K F as (.str (S l)) (.str l) := by rw [Rp]
theorem Rp.unN {v : V} (h : Rp K F as v .non) : v = .non := by rw [Rp] at h; exact h
theorem Rp.unB {v : V} {b : Bool} (h : Rp K F as v (.bl b)) : v = .bl b := by rw [Rp] at h; exact h
theorem Rp.unI {v : V} {i : Int} (h : Rp K F as v (.int i)) : v = .int i := by rw [Rp] at h; exact h
theorem Rp.unS {v : V} {l : List Nat} (h : Rp K F as v (.str l)) : v = .str (S l) := by rw [Rp] at h; exact h
theorem Rp.unL {v : V} {ds : List D} (h : Rp K F as v (.lst ds)) : ∃ a xs, v = .ref a ∧ RdK K F a xs ∧ Rps K F as xs ds := by rw [Rp] at h; exact h
theorem Rp.unT' {v : V} {ds : List D} (h : Rp K F as v (.tup ds)) : ∃ a xs, v = .ref a ∧ TqT K F a xs ∧ Rps K F as xs ds := by rw [Rp] at h; exact h
theorem Rp.unT {v : V} {ds : List D} (h : Rp K F as v (.tup ds)) : ∃ a xs, v = .ref a ∧ SqT K F a xs ∧ Rps K F as xs ds := let ⟨a, xs, e, h1, h2⟩ := h.unT'; ⟨a, xs, e, h1.sq, h2⟩
theorem Rp.unO {v : V} {n : Nat} (h : Rp K F as v (.ob n)) : ∃ a, v = .ref a ∧ as[n]? = some a := by rw [Rp] at h; exact h
theorem Rp.unD {v : V} {ks vs : List D} (h : Rp K F as v (.dic ks vs)) : ∃ (a : Addr) (kvs : List (Key × V)), v = .ref a ∧ F a = some (.dK kvs) ∧ ks = kvs.map (fun p => keyD p.1) ∧ Rps K F as (kvs.map (·.2)) vs := by rw [Rp] at h; exact h
theorem Rp.mkL {a : Addr} {xs : List V} {ds : List D} (h : RdK K F a xs) (hs : Rps K F as xs ds) : Rp K F as (.ref a) (.lst ds) := by rw [Rp]; exact ⟨a, xs, rfl, h, hs⟩
theorem Rp.mkT {a : Addr} {xs : List V} {ds : List D} (h : TqT K F a xs) (hs : Rps K F as xs ds) : Rp K F as (.ref a) (.tup ds) := by rw [Rp]; exact ⟨a, xs, rfl, h, hs⟩
theorem Rp.mkO {a : Addr} {n : Nat} (h : as[n]? = some a) : Rp K F as (.ref a) (.ob n) := by rw [Rp]; exact ⟨a, rfl, h⟩
theorem Rps.nil : Rps K F as [] [] := by rw [Rps]
theorem Rps.cons {x : V} {xs : List V} {d : D} {ds : List D} (h : Rp K F as x d) (hs : Rps K F as xs ds) : Rps K F as (x :: xs) (d :: ds) := by
  rw [Rps]; exact ⟨x, xs, rfl, h, hs⟩
theorem Rps.un {xs : List V} {d : D} {ds : List D} (h : Rps K F as xs (d :: ds)) : ∃ x r, xs = x :: r ∧ Rp K F as x d ∧ Rps K F as r ds := by rw [Rps] at h; exact h
theorem Rps.un0 {xs : List V} (h : Rps K F as xs []) : xs = [] := by rw [Rps] at h; exact h
theorem Rps.length : ∀ {ds : List D} {xs : List V}, Rps K F as xs ds → xs.length = ds.length
  | [], xs, h => by rw [h.un0]; rfl
  | d :: ds, xs, h => by
    obtain ⟨x, r, rfl, _, h3⟩ := h.un
    simp [Rps.length h3]
theorem Rps.get : ∀ {ds : List D} {xs : List V} {i : Nat} {x : V}, Rps K F as xs ds → xs[i]? = some x → ∃ d, ds[i]? = some d ∧ Rp K F as x d
  | [], xs, i, x, h, e => by rw [h.un0] at e; simp at e
  | d :: ds, xs, i, x, h, e => by
    obtain ⟨y, r, rfl, h2, h3⟩ := h.un
    cases i with
    | zero => simp at e; subst e; exact ⟨d, rfl, h2⟩
    | succ i =>
      obtain ⟨d', e', q⟩ := Rps.get (i := i) (x := x) h3 (by simpa using e)
      exact ⟨d', by simpa using e', q⟩
theorem Rps.get' : ∀ {ds : List D} {xs : List V} {i : Nat} {d : D}, Rps K F as xs ds → ds[i]? = some d → ∃ x, xs[i]? = some x ∧ Rp K F as x d := by
  intro ds xs i d h e
  have hl := h.length
  have hi : i < xs.length := by rw [hl]; exact (List.getElem?_eq_some_iff.mp e).1
  obtain ⟨d', e', q⟩ := h.get (List.getElem?_eq_getElem hi)
  rw [e] at e'; cases e'
  exact ⟨_, List.getElem?_eq_getElem hi, q⟩
theorem Rps.append {ys : List V} {es : List D} (hy : Rps K F as ys es) : ∀ {ds : List D} {xs : List V}, Rps K F as xs ds → Rps K F as (xs ++ ys) (ds ++ es)
  | [], xs, h => by rw [h.un0]; exact hy
  | e :: ds, xs, h => by
    obtain ⟨y, r, rfl, h2, h3⟩ := h.un
    exact Rps.cons h2 (Rps.append hy h3)
theorem Rps.snoc {x : V} {d : D} {ds : List D} {xs : List V} (h : Rps K F as xs ds) (hx : Rp K F as x d) : Rps K F as (xs ++ [x]) (ds ++ [d]) := Rps.append (Rps.cons hx Rps.nil) h
theorem Rps.take : ∀ {ds : List D} {xs : List V} (n : Nat), Rps K F as xs ds → Rps K F as (xs.take n) (ds.take n)
  | _, _, 0, _ => by simpa using Rps.nil
  | [], xs, n + 1, h => by rw [h.un0]; simpa using Rps.nil
  | d :: ds, xs, n + 1, h => by
    obtain ⟨y, r, rfl, h2, h3⟩ := h.un
    exact Rps.cons h2 (Rps.take n h3)
theorem Rps.drop : ∀ {ds : List D} {xs : List V} (n : Nat), Rps K F as xs ds → Rps K F as (xs.drop n) (ds.drop n)
  | _, _, 0, h => by simpa using h
  | [], xs, n + 1, h => by rw [h.un0]; simpa using Rps.nil
  | d :: ds, xs, n + 1, h => by
    obtain ⟨y, r, rfl, h2, h3⟩ := h.un
    exact Rps.drop n h3
theorem Rps.set : ∀ {ds : List D} {xs : List V} {x : V} {d : D} (n : Nat), Rps K F as xs ds → Rp K F as x d → Rps K F as (xs.set n x) (ds.set n d)
  | [], xs, x, d, n, h, _ => by rw [h.un0]; simpa using Rps.nil
  | e :: ds, xs, x, d, 0, h, hx => by
    obtain ⟨y, r, rfl, h2, h3⟩ := h.un
    exact Rps.cons hx h3
  | e :: ds, xs, x, d, n + 1, h, hx => by
    obtain ⟨y, r, rfl, h2, h3⟩ := h.un
    exact Rps.cons h2 (Rps.set n h3 hx)
theorem Rps.rep {ds : List D} {xs : List V} (h : Rps K F as xs ds) : ∀ n : Nat, Rps K F as (List.replicate n xs).flatten (List.replicate n ds).flatten
  | 0 => by simpa using Rps.nil
  | n + 1 => by
    rw [List.replicate_succ, List.replicate_succ, List.flatten_cons, List.flatten_cons]
    exact Rps.append (Rps.rep h n) h
end
def isD : HO → Bool
  | .ins _ _ _ => false
  | .own _ => false
  | .xd _ => false
  | _ => true
structure Gr (H F : Hp) (as : List Addr) (H' F' : Hp) (as' : List Addr) : Prop where
  fz : ∀ a, H a ≠ none → F' a = F a
  ff : Same F F'
  nw : ∃ new, as' = as ++ new ∧ ∀ a ∈ new, H a = none
  fr : ∀ a o, H a = some o → a ∉ as → isD o = true → H' a = some o
  dm : ∀ a, H' a = none → H a = none
structure Pt where
  p : Addr → Prop
  ss : List (Nat × V × D)
instance : CoeFun Pt (fun _ => Addr → Prop) := ⟨Pt.p⟩
def Pt.all (H : Hp) : Pt := ⟨fun a => H a ≠ none, []⟩
structure GrS (P : Pt) (H F : Hp) (as : List Addr) (H' F' : Hp) (as' : List Addr) : Prop where
  fz : ∀ a, P a → H a ≠ none → F' a = F a
  ff : Same F F'
  nw : ∃ new, as' = as ++ new ∧ ∀ a ∈ new, H a = none
  fr : ∀ a o, P a → H a = some o → a ∉ as → isD o = true → H' a = some o
  dm : ∀ a, H' a = none → H a = none
section
variable {H F H' F' H2 F2 : Hp} {as as' as2 : List Addr} {P : Pt}
theorem Gr.refl : Gr H F as H F as := ⟨fun _ _ => rfl, Same.refl F, ⟨[], by simp, fun _ h => nomatch h⟩, fun _ _ h _ _ => h, fun _ h => h⟩
theorem Gr.trans (a : Gr H F as H' F' as') (b : Gr H' F' as' H2 F2 as2) : Gr H F as H2 F2 as2 := by
  obtain ⟨n1, e1, h1⟩ := a.nw
  obtain ⟨n2, e2, h2⟩ := b.nw
  refine ⟨fun c hc => ?_, a.ff.trans b.ff, ⟨n1 ++ n2, by rw [e2, e1, List.append_assoc], fun c hc => ?_⟩, fun c o e hn hd => ?_, fun c h => a.dm c (b.dm c h)⟩
  · rw [b.fz c (fun z => hc (a.dm c z)), a.fz c hc]
  · rcases List.mem_append.mp hc with z | z
    · exact h1 c z
    · exact a.dm c (h2 c z)
  · have q := a.fr c o e hn hd
    refine b.fr c o q ?_ hd
    rw [e1]
    intro z
    rcases List.mem_append.mp z with z | z
    · exact hn z
    · rw [h1 c z] at e; cases e
theorem Gr.toS (a : Gr H F as H' F' as') : GrS P H F as H' F' as' := ⟨fun c _ => a.fz c, a.ff, a.nw, fun c o _ e hn hd => a.fr c o e hn hd, a.dm⟩
theorem GrS.refl : GrS P H F as H F as := Gr.refl.toS
theorem GrS.trans (a : GrS P H F as H' F' as') (b : GrS P H' F' as' H2 F2 as2) : GrS P H F as H2 F2 as2 := by
  obtain ⟨n1, e1, h1⟩ := a.nw
  obtain ⟨n2, e2, h2⟩ := b.nw
  refine ⟨fun c hp hc => ?_, a.ff.trans b.ff, ⟨n1 ++ n2, by rw [e2, e1, List.append_assoc], fun c hc => ?_⟩, fun c o p e hn hd => ?_, fun c h => a.dm c (b.dm c h)⟩
  · rw [b.fz c hp (fun z => hc (a.dm c z)), a.fz c hp hc]
  · rcases List.mem_append.mp hc with z | z
    · exact h1 c z
    · exact a.dm c (h2 c z)
  · have q := a.fr c o p e hn hd
    refine b.fr c o p q ?_ hd
    rw [e1]
    intro z
    rcases List.mem_append.mp z with z | z
    · exact hn z
    · rw [h1 c z] at e; cases e
theorem GrS.mono {P' : Pt} (a : GrS P H F as H' F' as') (h : ∀ c, P' c → P c) : GrS P' H F as H' F' as' := ⟨fun c p => a.fz c (h c p), a.ff, a.nw, fun c o p => a.fr c o (h c p), a.dm⟩
theorem GrS.gr (a : GrS (Pt.all H) H F as H' F' as') : Gr H F as H' F' as' := ⟨fun c hc => a.fz c hc hc, a.ff, a.nw, fun c o e => a.fr c o (show H c ≠ none by rw [e]; exact fun z => nomatch z) e, a.dm⟩
theorem Gr.at_ (a : Gr H F as H' F' as') : ∀ (n : Nat) (c : Addr), as[n]? = some c → as'[n]? = some c := fun n c h => by
  obtain ⟨new, e, _⟩ := a.nw
  rw [e, List.getElem?_append_left (List.getElem?_eq_some_iff.mp h).1]
  exact h
theorem GrS.at_ (a : GrS P H F as H' F' as') : ∀ (n : Nat) (c : Addr), as[n]? = some c → as'[n]? = some c := fun n c h => by
  obtain ⟨new, e, _⟩ := a.nw
  rw [e, List.getElem?_append_left (List.getElem?_eq_some_iff.mp h).1]
  exact h
theorem Gr.out (a : Gr H F as H' F' as') {c : Addr} (h : c ∉ as) (e : H c ≠ none) : c ∉ as' := by
  obtain ⟨new, e1, h1⟩ := a.nw
  rw [e1]
  intro z
  rcases List.mem_append.mp z with z | z
  · exact h z
  · exact e (h1 c z)
theorem GrS.out (a : GrS P H F as H' F' as') {c : Addr} (h : c ∉ as) (e : H c ≠ none) : c ∉ as' := by
  obtain ⟨new, e1, h1⟩ := a.nw
  rw [e1]
  intro z
  rcases List.mem_append.mp z with z | z
  · exact h z
  · exact e (h1 c z)
theorem Rp.gr {K : Frag} {v : V} {d : D} (h : Rp K F as v d) (a : Gr H F as H' F' as') : Rp K F' as' v d := Rp.mono a.ff a.at_ d h
theorem Rps.gr {K : Frag} {v : List V} {d : List D} (h : Rps K F as v d) (a : Gr H F as H' F' as') : Rps K F' as' v d := Rps.mono a.ff a.at_ d h
theorem Rp.grS {K : Frag} {v : V} {d : D} (h : Rp K F as v d) (a : GrS P H F as H' F' as') : Rp K F' as' v d := Rp.mono a.ff a.at_ d h
theorem Rps.grS {K : Frag} {v : List V} {d : List D} (h : Rps K F as v d) (a : GrS P H F as H' F' as') : Rps K F' as' v d := Rps.mono a.ff a.at_ d h
end
structure FsR (K : Frag) (F : Hp) (as : List Addr) (gs : List (Str × V)) (fs : List (Str × D)) : Prop where
  nm : gs.map (·.1) = fs.map (·.1)
  vl : Rps K F as (gs.map (·.2)) (fs.map (·.2))
def ObR (K : Frag) (mg : Str → Option Value) (H F : Hp) (as : List Addr) (a : Addr) : Ob → Prop
  | .ins c fs => ∃ C dx gs, mg c = some (.ref C) ∧ H a = some (.ins C dx gs) ∧ FsR K F as gs fs
  | .ml ds => ∃ xs, H a = some (.lst xs) ∧ Rps K F as xs ds
  | .dt kvs => ∃ xs : List (List Key × V), H a = some (.dT xs) ∧ xs.map (·.1) = kvs.map (·.1) ∧ Rps K F as (xs.map (·.2)) (kvs.map (·.2))
structure RlO (K : Frag) (mg : Str → Option Value) (O : Store) (H F : Hp) (as : List Addr) : Prop where
  fh : Same F H
  fd : ∀ a o, F a = some o → isD o = true
  nd : as.Nodup
  len : as.length = O.length
  fa : ∀ a ∈ as, F a = none
  ob : ∀ (n : Nat) (a : Addr) (o : Ob), as[n]? = some a → O[n]? = some o → ObR K mg H F as a o
inductive Md where
  | v | s | o
  deriving DecidableEq
def notL : D → Bool
  | .lst _ => false
  | _ => true
def SlotR (P : Pt) (K : Frag) (H F : Hp) (as : List Addr) : Md → V → D → Prop
  | .v, v, d => Rp K F as v d
  | .s, v, d => Rp K F as v d ∨ ∃ a xs ds, v = .ref a ∧ d = .lst ds ∧ H a = some (.lst xs) ∧ a ∉ as ∧ P a ∧ Rps K F as xs ds
  | .o, v, d => (notL d = true ∧ Rp K F as v d) ∨ ∃ a xs ds, v = .ref a ∧ d = .lst ds ∧ H a = some (.lst xs) ∧ F a = none ∧ a ∉ as ∧ ¬ P a ∧ Rps K F as xs ds
structure SlO (K : Frag) (md : List Md) (P : Pt) (ρ : DEnv) (σ : St) (H F : Hp) (as : List Addr) : Prop where
  len : σ.length = md.length
  len' : ρ.length = md.length
  pd : ∀ a, P a → H a ≠ none
  sl : ∀ (i : Nat) (m : Md) (d : D), md[i]? = some m → ρ[i]? = some (some d) → ∃ v, σ[i]? = some (some v) ∧ SlotR P K H F as m v d
  inj : ∀ (i j : Nat) (a : Addr) (ds es : List D), md[i]? = some .o → md[j]? = some .o → ρ[i]? = some (some (.lst ds)) → ρ[j]? = some (some (.lst es)) → σ[i]? = some (some (.ref a)) → σ[j]? = some (some (.ref a)) → i = j
  pin : ∀ x ∈ P.ss, md[x.1]? = some .s ∧ ρ[x.1]? = some (some x.2.2) ∧ σ[x.1]? = some (some x.2.1)
section
variable {K : Frag} {mg : Str → Option Value} {md : List Md} {P : Pt} {ρ : DEnv} {σ : St} {H F H' F' : Hp} {as as' : List Addr} {O O' : Store}
theorem SlotR.step {m : Md} {v : V} {d : D} (h : SlotR P K H F as m v d) (g : Gr H F as H' F' as') : SlotR P K H' F' as' m v d := by
  cases m with
  | v => exact Rp.gr (show Rp K F as v d from h) g
  | s =>
    rcases h with h | ⟨a, xs, ds, e1, e2, e3, e4, e5, e6⟩
    · exact .inl (h.gr g)
    · exact .inr ⟨a, xs, ds, e1, e2, g.fr _ _ e3 e4 rfl, g.out e4 (by rw [e3]; exact fun z => nomatch z), e5, e6.gr g⟩
  | o =>
    rcases h with ⟨h1, h⟩ | ⟨a, xs, ds, e1, e2, e3, e0, e4, e5, e6⟩
    · exact .inl ⟨h1, h.gr g⟩
    · have hn : H a ≠ none := by rw [e3]; exact fun z => nomatch z
      exact .inr ⟨a, xs, ds, e1, e2, g.fr _ _ e3 e4 rfl, by rw [g.fz a hn]; exact e0, g.out e4 hn, e5, e6.gr g⟩
theorem SlO.step (h : SlO K md P ρ σ H F as) (g : Gr H F as H' F' as') : SlO K md P ρ σ H' F' as' :=
  ⟨h.len, h.len', fun a p z => h.pd a p (g.dm a z), fun i m d e1 e2 => let ⟨v, q, r⟩ := h.sl i m d e1 e2; ⟨v, q, r.step g⟩, h.inj, h.pin⟩
end
def Sv (K : Frag) (H F : Hp) (as : List Addr) (v : V) (d : D) : Prop :=
  Rp K F as v d ∨ ∃ a xs ds, v = .ref a ∧ d = .lst ds ∧ H a = some (.lst xs) ∧ a ∉ as ∧ Rps K F as xs ds
def Lk (K : Frag) (H F : Hp) (as : List Addr) (v : V) (d : D) : Prop :=
  Rp K F as v d ∨ ∃ a xs ds, v = .ref a ∧ d = .lst ds ∧ H a = some (.lst xs) ∧ Rps K F as xs ds
def Ow (K : Frag) (N : Addr → Prop) (H F : Hp) (as : List Addr) (v : V) (d : D) : Prop :=
  (notL d = true ∧ Rp K F as v d) ∨ ∃ a xs ds, v = .ref a ∧ d = .lst ds ∧ H a = some (.lst xs) ∧ F a = none ∧ a ∉ as ∧ N a ∧ Rps K F as xs ds
def deref (O : Store) (d : D) : D := match d with
  | .ob n => match O[n]? with
    | some (.ml ds) => .lst ds
    | _ => .ob n
  | d => d
section
variable {K : Frag} {mg : Str → Option Value} {H0 H F H' F' : Hp} {as as' : List Addr} {O : Store} {v : V} {d : D}
theorem Sv.gr (h : Sv K H F as v d) (g : Gr H F as H' F' as') : Sv K H' F' as' v d := by
  rcases h with h | ⟨a, xs, ds, e1, e2, e3, e4, e5⟩
  · exact .inl (h.gr g)
  · exact .inr ⟨a, xs, ds, e1, e2, g.fr _ _ e3 e4 rfl, g.out e4 (by rw [e3]; exact fun z => nomatch z), e5.gr g⟩
theorem Sv.lk (h : Sv K H F as v d) (r : RlO K mg O H F as) : Lk K H F as v (deref O d) := by
  rcases h with h | ⟨a, xs, ds, rfl, rfl, e3, e4, e5⟩
  · cases d with
    | ob n =>
      obtain ⟨a, rfl, ha⟩ := h.unO
      unfold deref
      dsimp only
      split
      · rename_i ds e
        obtain ⟨xs, e1, e2⟩ := r.ob n a _ ha e
        exact .inr ⟨a, xs, ds, rfl, rfl, e1, e2⟩
      · exact .inl (Rp.mkO ha)
    | _ => exact .inl h
  · exact .inr ⟨a, xs, ds, rfl, rfl, e3, e5⟩
theorem Lk.list {ds : List D} (h : Lk K H F as v (.lst ds)) (fh : Same F H) : ∃ a xs, v = .ref a ∧ RdK K H a xs ∧ Rps K F as xs ds := by
  rcases h with h | ⟨a, xs, ds', e1, e2, e3, e4⟩
  · obtain ⟨a, xs, e, h1, h2⟩ := h.unL
    exact ⟨a, xs, e, h1.mono fh, h2⟩
  · cases e2
    exact ⟨a, xs, e1, .inl (.inl e3), e4⟩
theorem Lk.rp (h : Lk K H F as v d) (hn : notL d = true) : Rp K F as v d := by
  rcases h with h | ⟨a, xs, ds', e1, rfl, e3, e4⟩
  · exact h
  · cases hn
theorem Sv.rp (h : Sv K H F as v d) (hn : notL d = true) : Rp K F as v d := by
  rcases h with h | ⟨a, xs, ds', e1, rfl, e3, e4⟩
  · exact h
  · cases hn
theorem Ow.sv {N : Addr → Prop} (h : Ow K N H F as v d) : Sv K H F as v d := by
  rcases h with ⟨_, h⟩ | ⟨a, xs, ds, e1, e2, e3, e4, e5, e6, e7⟩
  · exact .inl h
  · exact .inr ⟨a, xs, ds, e1, e2, e3, e5, e7⟩
theorem Gr.lay {p : Addr} {o : HO} (hp : H p = none) : Gr H F as (upd H p o) F as :=
  ⟨fun _ _ => rfl, Same.refl F, ⟨[], by simp, fun _ h => nomatch h⟩, fun a o' e _ _ => by rw [upd_ne (ne_of_none e hp)]; exact e, fun a e => by
    by_cases h : a = p
    · subst h; exact hp
    · rwa [upd_ne h] at e⟩
theorem ObR.keep {a : Addr} {o : Ob} (h : ObR K mg H F as a o) (hH : H' a = H a) (e : Same F F') (ea : ∀ (n : Nat) (a : Addr), as[n]? = some a → as'[n]? = some a) : ObR K mg H' F' as' a o := by
  cases o with
  | ins c fs =>
    obtain ⟨C, dx, gs, h1, h2, h3, h4⟩ := h
    exact ⟨C, dx, gs, h1, by rw [hH]; exact h2, h3, Rps.mono e ea _ h4⟩
  | ml ds =>
    obtain ⟨xs, h1, h2⟩ := h
    exact ⟨xs, by rw [hH]; exact h1, Rps.mono e ea _ h2⟩
  | dt kvs =>
    obtain ⟨xs, h1, h2, h3⟩ := h
    exact ⟨xs, by rw [hH]; exact h1, h2, Rps.mono e ea _ h3⟩
theorem RlO.at {n : Nat} {a : Addr} {o : Ob} (r : RlO K mg O H F as) (ha : as[n]? = some a) (ho : O[n]? = some o) : H a ≠ none := by
  have q := r.ob n a o ha ho
  cases o with
  | ins c fs => obtain ⟨C, dx, gs, h1, h2, _⟩ := q; rw [h2]; exact fun z => nomatch z
  | ml ds => obtain ⟨xs, h1, _⟩ := q; rw [h1]; exact fun z => nomatch z
  | dt kvs => obtain ⟨xs, h1, _⟩ := q; rw [h1]; exact fun z => nomatch z
theorem RlO.all {a : Addr} (r : RlO K mg O H F as) (ha : a ∈ as) : H a ≠ none := by
  obtain ⟨n, hn, e⟩ := List.mem_iff_getElem.mp ha
  have hO : n < O.length := by rw [← r.len]; exact hn
  exact r.at (n := n) (by rw [List.getElem?_eq_getElem hn, e]) (List.getElem?_eq_getElem hO)
theorem RlO.lay {p : Addr} {o : HO} (r : RlO K mg O H F as) (hp : H p = none) : RlO K mg O (upd H p o) F as := by
  refine ⟨fun a u e => ?_, r.fd, r.nd, r.len, r.fa, fun n a u ha hu => (r.ob n a u ha hu).keep (upd_ne ?_) (Same.refl F) fun _ _ h => h⟩
  · have q := r.fh a u e
    rw [upd_ne (ne_of_none q hp)]; exact q
  · intro z; subst z; exact r.at ha hu hp
theorem Gr.frz {p : Addr} {o : HO} (hp : H p = none) (g : Gr H F as H' F' as') (hf : F' p = none) : Gr H F as H' (upd F' p o) as' :=
  ⟨fun a ha => by rw [upd_ne (fun z => by subst z; exact ha hp)]; exact g.fz a ha, fun a u e => by
    have q := g.ff a u e
    rw [upd_ne (ne_of_none q hf)]; exact q, g.nw, g.fr, g.dm⟩
theorem RlO.frz {p : Addr} {o : HO} (r : RlO K mg O H F as) (hp : H p = some o) (hf : F p = none) (ha : p ∉ as) (hd : isD o = true) : RlO K mg O H (upd F p o) as := by
  have ff : Same F (upd F p o) := fun a u e => by rw [upd_ne (ne_of_none e hf)]; exact e
  refine ⟨fun a u e => ?_, fun a u e => ?_, r.nd, r.len, fun a h => ?_, fun n a u h1 h2 => (r.ob n a u h1 h2).keep rfl ff fun _ _ h => h⟩
  · by_cases h : a = p
    · subst h; rw [upd_same] at e; cases e; exact hp
    · rw [upd_ne h] at e; exact r.fh a u e
  · by_cases h : a = p
    · subst h; rw [upd_same] at e; cases e; exact hd
    · rw [upd_ne h] at e; exact r.fd a u e
  · rw [upd_ne (fun z => by subst z; exact ha h)]; exact r.fa a h
end
end L2
namespace L2
open PySem PySem.Spec PyProof.Rows
abbrev RR := (Addr → Prop) → Hp → Hp → List Addr → V → D → Prop
def rV (K : Frag) : RR := fun _ _ F as v d => Rp K F as v d
def rS (K : Frag) : RR := fun _ H F as v d => Sv K H F as v d
def rO (K : Frag) : RR := fun N H F as v d => Ow K N H F as v d
def rA (K : Frag) : Md → RR
  | .v => rV K
  | _ => rS K
def RRok (R : RR) : Prop := ∀ (N N' : Addr → Prop) (H F : Hp) (as : List Addr) (v : V) (d : D), (∀ a, N a → N' a) → R N H F as v d → R N' H F as v d
theorem rV_ok {K : Frag} : RRok (rV K) := fun _ _ _ _ _ _ _ _ h => h
theorem rO_ok {K : Frag} : RRok (rO K) := fun N N' H F as v d hn h => by
  rcases h with h | ⟨a, xs, ds, e1, e2, e3, e4, e5, e6, e7⟩
  · exact .inl h
  · exact .inr ⟨a, xs, ds, e1, e2, e3, e4, e5, hn a e6, e7⟩
def tM (K : Frag) (mg : Str → Option Value) (md : List Md) (P : Pt) (R : RR) (m : M D) : TE := fun σ H Q =>
  ∃ ρ O F as d O', RlO K mg O H F as ∧ SlO K md P ρ σ H F as ∧ m ρ O = .ok d O' ∧
    ∀ v H' F' as', Gr H F as H' F' as' → RlO K mg O' H' F' as' → R (fun a => H a = none) H' F' as' v d → Q v H'
def tMT (K : Frag) (mg : Str → Option Value) (md : List Md) (P : Pt) (m : M Bool) : TT := fun σ H Q =>
  ∃ ρ O F as b O', RlO K mg O H F as ∧ SlO K md P ρ σ H F as ∧ m ρ O = .ok b O' ∧
    ∀ H' F' as', Gr H F as H' F' as' → RlO K mg O' H' F' as' → Q b H'
def ArgsR (K : Frag) (H F : Hp) (as : List Addr) : List Md → List V → List D → Prop
  | [], [], [] => True
  | m :: ms, v :: vs, d :: ds => rA K m (fun _ => True) H F as v d ∧ ArgsR K H F as ms vs ds
  | _, _, _ => False
def tMA (K : Frag) (mg : Str → Option Value) (md : List Md) (P : Pt) (ms : List Md) (m : M (List D)) : TA := fun σ H Q =>
  ∃ ρ O F as ds O', RlO K mg O H F as ∧ SlO K md P ρ σ H F as ∧ m ρ O = .ok ds O' ∧
    ∀ vs H' F' as', Gr H F as H' F' as' → RlO K mg O' H' F' as' → ArgsR K H' F' as' ms vs ds → Q vs H'
def XE (X : Cx) (md : List Md) (P : Pt) (R : RR) (e : Expr) (m : M D) : Prop := PE X e (tM X.K X.mg md P R m)
def VE (X : Cx) (md : List Md) (P : Pt) (e : Expr) (m : M D) : Prop := PE X e (tM X.K X.mg md P (rV X.K) m)
def SE (X : Cx) (md : List Md) (P : Pt) (e : Expr) (m : M D) : Prop := PE X e (tM X.K X.mg md P (rS X.K) m)
def OE (X : Cx) (md : List Md) (P : Pt) (e : Expr) (m : M D) : Prop := PE X e (tM X.K X.mg md P (rO X.K) m)
def TsE (X : Cx) (md : List Md) (P : Pt) (e : Expr) (m : M Bool) : Prop := PT X e (tMT X.K X.mg md P m)
def TwE (X : Cx) (md : List Md) (P : Pt) (e : Expr) (m : M Bool) : Prop := PW X e (tMT X.K X.mg md P m)
def AE (X : Cx) (md : List Md) (P : Pt) (ms : List Md) (es : List Expr) (m : M (List D)) : Prop := PA X es (tMA X.K X.mg md P ms m)
def FlOk (K : Frag) (mg : Str → Option Value) (md : List Md) (P : Pt) (R : RR) (D : Ends) (H F : Hp) (as : List Addr) : Fl → Prop
  | .nx ρ' O' => ∀ σ' H' F' as', GrS P H F as H' F' as' → RlO K mg O' H' F' as' → SlO K md P ρ' σ' H' F' as' → D.nx σ' H'
  | .bk ρ' O' => ∀ σ' H' F' as', GrS P H F as H' F' as' → RlO K mg O' H' F' as' → SlO K md P ρ' σ' H' F' as' → D.bk σ' H'
  | .ct ρ' O' => ∀ σ' H' F' as', GrS P H F as H' F' as' → RlO K mg O' H' F' as' → SlO K md P ρ' σ' H' F' as' → D.ct σ' H'
  | .rt d O' => ∀ v H' F' as', GrS P H F as H' F' as' → RlO K mg O' H' F' as' → R (fun a => ¬ P a) H' F' as' v d → D.rt v H'
  | .ex _ _ => False
  | .no => False
def tMS (K : Frag) (mg : Str → Option Value) (md : List Md) (P : Pt) (R : RR) (m : MS) : TS := fun D σ H =>
  ∃ ρ O F as, RlO K mg O H F as ∧ SlO K md P ρ σ H F as ∧ FlOk K mg md P R D H F as (m ρ O)
def VS (X : Cx) (md : List Md) (P : Pt) (R : RR) (st : Stmt) (m : MS) : Prop := PS X st (tMS X.K X.mg md P R m)
def VSs (X : Cx) (md : List Md) (P : Pt) (R : RR) (st : List Stmt) (m : MS) : Prop := PSs X st (tMS X.K X.mg md P R m)
section
variable {X : Cx} {md : List Md} {P : Pt} {R : RR}
theorem PE.imp {e : Expr} {t t' : TE} (h : PE X e t) (k : ∀ σ H Q, t' σ H Q → t σ H Q) : PE X e t' := fun pins s σ H Q I q => h pins s σ H Q I (k σ H Q q)
theorem PT.imp {e : Expr} {t t' : TT} (h : PT X e t) (k : ∀ σ H Q, t' σ H Q → t σ H Q) : PT X e t' := fun pins s σ H Q I q => h pins s σ H Q I (k σ H Q q)
theorem PW.imp {e : Expr} {t t' : TT} (h : PW X e t) (k : ∀ σ H Q, t' σ H Q → t σ H Q) : PW X e t' := fun w pins s σ H Q I q => h w pins s σ H Q I (k σ H Q q)
theorem PA.imp {e : List Expr} {t t' : TA} (h : PA X e t) (k : ∀ σ H Q, t' σ H Q → t σ H Q) : PA X e t' := fun pos pins s σ H Q I q => h pos pins s σ H Q I (k σ H Q q)
theorem PS.imp {e : Stmt} {t t' : TS} (h : PS X e t) (k : ∀ D σ H, t' D σ H → t D σ H) : PS X e t' := fun pins s σ H D I q => h pins s σ H D I (k D σ H q)
theorem PSs.imp {e : List Stmt} {t t' : TS} (h : PSs X e t) (k : ∀ D σ H, t' D σ H → t D σ H) : PSs X e t' := fun pins s σ H D I q => h pins s σ H D I (k D σ H q)
def mVar (i : Nat) : M D := fun ρ O => match ρ[i]? with
  | some (some d) => .ok d O
  | _ => .no
def mC (d : D) : M D := fun _ O => .ok d O
def mG (m : M D) : M D := fun ρ O => match m ρ O with
  | .ok d O' => if notL d = true then .ok d O' else .no
  | r => r
theorem mVar_ok {i : Nat} {ρ : DEnv} {O O' : Store} {d : D} (h : mVar i ρ O = .ok d O') : ρ[i]? = some (some d) ∧ O' = O := by
  unfold mVar at h
  split at h
  · rename_i d' e
    cases h
    exact ⟨e, rfl⟩
  · cases h
theorem mG_ok {m : M D} {ρ : DEnv} {O O' : Store} {d : D} (h : mG m ρ O = .ok d O') : m ρ O = .ok d O' ∧ notL d = true := by
  unfold mG at h
  split at h
  · rename_i d' O1 e
    split at h
    · rename_i hn
      cases h
      exact ⟨e, hn⟩
    · cases h
  · rename_i hne
    exact absurd h (hne _ _)
theorem SlO.get {K : Frag} {ρ : DEnv} {σ : St} {H F : Hp} {as : List Addr} {i : Nat} {d : D} (s : SlO K md P ρ σ H F as) (h : ρ[i]? = some (some d)) : ∃ m v, md[i]? = some m ∧ σ[i]? = some (some v) ∧ SlotR P K H F as m v d := by
  have hi : i < md.length := by rw [← s.len']; exact (List.getElem?_eq_some_iff.mp h).1
  obtain ⟨v, h1, h2⟩ := s.sl i md[i] d (List.getElem?_eq_getElem hi) h
  exact ⟨_, v, List.getElem?_eq_getElem hi, h1, h2⟩
theorem SlotR.sv {K : Frag} {H F : Hp} {as : List Addr} {m : Md} {v : V} {d : D} (h : SlotR P K H F as m v d) : Sv K H F as v d := by
  cases m with
  | v => exact .inl h
  | s =>
    rcases h with h | ⟨a, xs, ds, e1, e2, e3, e4, e5, e6⟩
    · exact .inl h
    · exact .inr ⟨a, xs, ds, e1, e2, e3, e4, e6⟩
  | o =>
    rcases h with ⟨_, h⟩ | ⟨a, xs, ds, e1, e2, e3, e0, e4, e5, e6⟩
    · exact .inl h
    · exact .inr ⟨a, xs, ds, e1, e2, e3, e4, e6⟩
theorem se_var (i : Nat) {x : Str} {pos : Pos} (hN : X.N[i]? = some x := by rfl) (hv : Vis X.env.scope x := by first | exact Or.inl rfl | exact Or.inr (Or.inl rfl) | exact Or.inr (Or.inr rfl))
    (hd : (x == ("__debug__" : Str)) = false := by decide) (hcd : (x == ("__classdict__" : Str)) = false := by decide) : SE X md P (.Name x pos) (mVar i) := by
  refine (pe_var (i := i) hN hv hd hcd).imp fun σ H Q h => ?_
  obtain ⟨ρ, O, F, as, d, O', r, s, e, k⟩ := h
  obtain ⟨e1, rfl⟩ := mVar_ok e
  obtain ⟨m, v, h1, h2, h3⟩ := s.get e1
  exact ⟨v, h2, k v H F as Gr.refl r h3.sv⟩
theorem ve_var (i : Nat) {x : Str} {pos : Pos} (hm : md[i]? = some .v := by rfl) (hN : X.N[i]? = some x := by rfl) (hv : Vis X.env.scope x := by first | exact Or.inl rfl | exact Or.inr (Or.inl rfl) | exact Or.inr (Or.inr rfl))
    (hd : (x == ("__debug__" : Str)) = false := by decide) (hcd : (x == ("__classdict__" : Str)) = false := by decide) : VE X md P (.Name x pos) (mVar i) := by
  refine (pe_var (i := i) hN hv hd hcd).imp fun σ H Q h => ?_
  obtain ⟨ρ, O, F, as, d, O', r, s, e, k⟩ := h
  obtain ⟨e1, rfl⟩ := mVar_ok e
  obtain ⟨v, h2, h3⟩ := s.sl i .v d hm e1
  exact ⟨v, h2, k v H F as Gr.refl r h3⟩
theorem se_ve {e : Expr} {m : M D} (h : VE X md P e m) : SE X md P e m := h.imp fun σ H Q q => by
  obtain ⟨ρ, O, F, as, d, O', r, s, e, k⟩ := q
  exact ⟨ρ, _, F, as, _, _, r, s, e, fun v H' F' as' g r' hv => k v H' F' as' g r' (.inl hv)⟩
theorem se_oe {e : Expr} {m : M D} (h : OE X md P e m) : SE X md P e m := h.imp fun σ H Q q => by
  obtain ⟨ρ, O, F, as, d, O', r, s, e, k⟩ := q
  exact ⟨ρ, _, F, as, _, _, r, s, e, fun v H' F' as' g r' hv => k v H' F' as' g r' (Ow.sv hv)⟩
theorem ve_se {e : Expr} {m : M D} (h : SE X md P e m) : VE X md P e (mG m) := h.imp fun σ H Q q => by
  obtain ⟨ρ, O, F, as, d, O', r, s, e, k⟩ := q
  obtain ⟨e, hn⟩ := mG_ok e
  exact ⟨ρ, _, F, as, _, _, r, s, e, fun v H' F' as' g r' hv => k v H' F' as' g r' (Sv.rp hv hn)⟩
theorem ve_oe {e : Expr} {m : M D} (h : OE X md P e m) : VE X md P e m := h.imp fun σ H Q q => by
  obtain ⟨ρ, O, F, as, d, O', r, s, e, k⟩ := q
  refine ⟨ρ, _, F, as, _, _, r, s, e, fun v H' F' as' g r' hv => ?_⟩
  rcases hv with ⟨_, hv⟩ | ⟨a, xs, ds, rfl, rfl, e3, e4, e5, e6, e7⟩
  · exact k v H' F' as' g r' hv
  · have ff : Same F' (upd F' a (.lst xs)) := fun b u q => by rw [upd_ne (ne_of_none q e4)]; exact q
    refine k _ H' (upd F' a (.lst xs)) as' (g.frz e6 e4) (r'.frz e3 e4 e5 rfl) (Rp.mkL (.inl (.inl upd_same)) (Rps.mono ff (fun _ _ z => z) _ e7))
theorem ve_c {e : Expr} {v : V} {d : D} (h : PE X e (tC v)) (hd : ∀ K F as, Rp K F as v d) : VE X md P e (mC d) := h.imp fun σ H Q q => by
  obtain ⟨ρ, O, F, as, d, O', r, s, e, k⟩ := q
  cases e
  exact k v H F as Gr.refl r (hd _ _ _)
theorem ve_int {i : Int} {j pos} : VE X md P (.Constant (.int i) j pos) (mC (.int i)) := ve_c pe_int fun _ _ _ => Rp.int
theorem ve_bl {b : Bool} {j pos} : VE X md P (.Constant (.bool b) j pos) (mC (.bl b)) := ve_c pe_bl fun _ _ _ => Rp.bl
theorem ve_non {j pos} : VE X md P (.Constant .none j pos) (mC .non) := ve_c pe_non fun _ _ _ => Rp.non
theorem ve_str {x : Str} {j pos} (l : List Nat) (hx : x = S l := by decide +kernel) : VE X md P (.Constant (.str x) j pos) (mC (.str l)) := ve_c pe_str fun _ _ _ => by rw [hx]; exact Rp.str
theorem ve_const {x : Str} {v : V} {d : D} {pos : Pos} (h : ∃ u, X.mg x = some u ∧ RelV v u) (hd : ∀ K F as, Rp K F as v d) (hg : Gl X x := by rfl) (hdb : (x == ("__debug__" : Str)) = false := by decide) : VE X md P (.Name x pos) (mC d) := ve_c (pe_const h hg hdb) hd
def maNil : M (List D) := fun _ O => .ok [] O
def maCons (m : M D) (r : M (List D)) : M (List D) := fun ρ O => (m ρ O).bind fun d O1 => (r ρ O1).bind fun ds O2 => .ok (d :: ds) O2
theorem ae_nil : AE X md P [] [] maNil := pa_nil.imp fun σ H Q q => by
  obtain ⟨ρ, O, F, as, d, O', r, s, e, k⟩ := q
  cases e
  exact k [] H F as Gr.refl r trivial
theorem rA.gr {K : Frag} {m : Md} {N : Addr → Prop} {H F H' F' : Hp} {as as' : List Addr} {v : V} {d : D} (h : rA K m N H F as v d) (g : Gr H F as H' F' as') : rA K m (fun _ => True) H' F' as' v d := by
  cases m with
  | v => exact Rp.gr (show Rp K F as v d from h) g
  | s => exact Sv.gr (show Sv K H F as v d from h) g
  | o => exact Sv.gr (show Sv K H F as v d from h) g
theorem ArgsR.gr {K : Frag} {H F H' F' : Hp} {as as' : List Addr} (g : Gr H F as H' F' as') : ∀ {ms : List Md} {vs : List V} {ds : List D}, ArgsR K H F as ms vs ds → ArgsR K H' F' as' ms vs ds
  | [], [], [], _ => trivial
  | m :: ms, v :: vs, d :: ds, h => ⟨rA.gr h.1 g, ArgsR.gr g h.2⟩
  | [], [], _ :: _, h => h.elim
  | [], _ :: _, [], h => h.elim
  | [], _ :: _, _ :: _, h => h.elim
  | _ :: _, [], [], h => h.elim
  | _ :: _, [], _ :: _, h => h.elim
  | _ :: _, _ :: _, [], h => h.elim
theorem ae_cons (md0 : Md) {e : Expr} {es : List Expr} {m : M D} {ms : List Md} {r : M (List D)} (h : XE X md P (rA X.K md0) e m) (hr : AE X md P ms es r)
    (hs : starEach (e :: es) X.env = (false, eval e X.env) :: starEach es X.env := by exact starC rfl) : AE X md P (md0 :: ms) (e :: es) (maCons m r) := (pa_cons h hr hs).imp fun σ H Q q => by
  obtain ⟨ρ, O, F, as, d, O', r0, s, e, k⟩ := q
  obtain ⟨d, O1, e1, e⟩ := Res.bind_ok e
  obtain ⟨ds', O2, e2, e⟩ := Res.bind_ok e
  cases e
  refine ⟨ρ, _, F, as, _, _, r0, s, e1, fun v H1 F1 as1 g1 r1 hv => ?_⟩
  refine ⟨ρ, _, F1, as1, _, _, r1, s.step g1, e2, fun vs H2 F2 as2 g2 r2 hvs => ?_⟩
  exact k (v :: vs) H2 F2 as2 (g1.trans g2) r2 ⟨rA.gr hv g2, hvs⟩
theorem ae_v {e : Expr} {es : List Expr} {m : M D} {ms : List Md} {r : M (List D)} (h : VE X md P e m) (hr : AE X md P ms es r)
    (hs : starEach (e :: es) X.env = (false, eval e X.env) :: starEach es X.env := by exact starC rfl) : AE X md P (.v :: ms) (e :: es) (maCons m r) := ae_cons .v h hr hs
theorem ae_s {e : Expr} {es : List Expr} {m : M D} {ms : List Md} {r : M (List D)} (h : SE X md P e m) (hr : AE X md P ms es r)
    (hs : starEach (e :: es) X.env = (false, eval e X.env) :: starEach es X.env := by exact starC rfl) : AE X md P (.s :: ms) (e :: es) (maCons m r) := ae_cons .s h hr hs
theorem ArgsR.rps {K : Frag} {H F : Hp} {as : List Addr} : ∀ {n : Nat} {vs : List V} {ds : List D}, ArgsR K H F as (List.replicate n .v) vs ds → Rps K F as vs ds
  | 0, [], [], _ => Rps.nil
  | n + 1, v :: vs, d :: ds, h => by
    rw [List.replicate_succ] at h
    exact Rps.cons h.1 (ArgsR.rps h.2)
  | 0, [], _ :: _, h => h.elim
  | 0, _ :: _, [], h => h.elim
  | 0, _ :: _, _ :: _, h => h.elim
  | n + 1, [], [], h => h.elim
  | n + 1, [], _ :: _, h => h.elim
  | n + 1, _ :: _, [], h => h.elim
def mLst (r : M (List D)) : M D := fun ρ O => (r ρ O).bind fun ds O1 => if ds.length ≤ 1000000 then .ok (.lst ds) O1 else .no
def mTup (r : M (List D)) : M D := fun ρ O => (r ρ O).bind fun ds O1 => if ds.length ≤ 1000000 then .ok (.tup ds) O1 else .no
theorem size6 {n : Nat} (h : n ≤ 1000000) : n ≤ sizeLine := Nat.le_trans h (by decide)
theorem oe_lst {es : List Expr} {pos : Pos} {r : M (List D)} (n : Nat) (h : AE X md P (List.replicate n .v) es r) : OE X md P (.List es pos) (mLst r) := (pe_lst h).imp fun σ H Q q => by
  obtain ⟨ρ, O, F, as, d, O', r0, s, e, k⟩ := q
  obtain ⟨ds, O1, e1, e⟩ := Res.bind_ok e
  split at e
  · rename_i hz
    cases e
    refine ⟨ρ, _, F, as, _, _, r0, s, e1, fun vs H1 F1 as1 g1 r1 hv => ?_⟩
    have hr := hv.rps
    refine ⟨by rw [hr.length]; exact size6 hz, fun p hp => ?_⟩
    have hF : F1 p = none := by
      cases q : F1 p with
      | none => rfl
      | some o => rw [r1.fh p o q] at hp; cases hp
    refine k _ _ F1 as1 (g1.trans (Gr.lay hp)) (r1.lay hp) (.inr ⟨p, vs, ds, rfl, rfl, upd_same, hF, fun z => r1.all z hp, g1.dm p hp, hr⟩)
  · cases e
theorem ve_tup {es : List Expr} {pos : Pos} {x1} {r : M (List D)} (n : Nat) (h : AE X md P (List.replicate n .v) es r) : VE X md P (.Tuple es x1 pos) (mTup r) := (pe_tup h).imp fun σ H Q q => by
  obtain ⟨ρ, O, F, as, d, O', r0, s, e, k⟩ := q
  obtain ⟨ds, O1, e1, e⟩ := Res.bind_ok e
  split at e
  · rename_i hz
    cases e
    refine ⟨ρ, _, F, as, _, _, r0, s, e1, fun vs H1 F1 as1 g1 r1 hv => ?_⟩
    have hr := hv.rps
    refine ⟨by rw [hr.length]; exact size6 hz, fun p hp => ?_⟩
    have hF : F1 p = none := by
      cases q : F1 p with
      | none => rfl
      | some o => rw [r1.fh p o q] at hp; cases hp
    have ff : Same F1 (upd F1 p (.tup vs)) := fun b u q => by rw [upd_ne (ne_of_none q hF)]; exact q
    refine k _ _ (upd F1 p (.tup vs)) as1 ((g1.trans (Gr.lay hp)).frz (g1.dm p hp) hF) ((r1.lay hp).frz upd_same hF (fun z => r1.all z hp) rfl) (Rp.mkT (.inl upd_same) (Rps.mono ff (fun _ _ z => z) _ hr))
  · cases e
def rD (K : Frag) (mg : Str → Option Value) (g : D → D → Option D) : R2 := fun x y H Q => ∃ O F as dx dy d, RlO K mg O H F as ∧ Lk K H F as x dx ∧ Lk K H F as y dy ∧ g dx dy = some d ∧
  ∀ v' H' F', Gr H F as H' F' as → RlO K mg O H' F' as → Ow K (fun a => H a = none) H' F' as v' d → Q v' H'
abbrev OpD (X : Cx) (f : Value → Value → Sem Value) (g : D → D → Option D) : Prop := OpR X f (rD X.K X.mg g)
def mBin (g : D → D → Option D) (ma mb : M D) : M D := fun ρ O => (ma ρ O).bind fun x O1 => (mb ρ O1).bind fun y O2 => match g (deref O2 x) (deref O2 y) with
  | some d => .ok d O2
  | none => .no
theorem bin_go {K : Frag} {mg : Str → Option Value} {g : D → D → Option D} {ma mb : M D} {σ : St} {H : Hp} {Q : VK} (h : tM K mg md P (rO K) (mBin g ma mb) σ H Q) : tOp (rD K mg g) (tM K mg md P (rS K) ma) (tM K mg md P (rS K) mb) σ H Q := by
  obtain ⟨ρ, O, F, as, d, O', r, sl, e, k⟩ := h
  obtain ⟨x, O1, e1, e⟩ := Res.bind_ok e
  obtain ⟨y, O2, e2, e⟩ := Res.bind_ok e
  split at e
  · rename_i d' hg
    cases e
    refine ⟨ρ, _, F, as, _, _, r, sl, e1, fun v H1 F1 as1 g1 r1 hv => ?_⟩
    refine ⟨ρ, _, F1, as1, _, _, r1, sl.step g1, e2, fun u H2 F2 as2 g2 r2 hu => ?_⟩
    refine ⟨_, F2, as2, _, _, _, r2, Sv.lk (Sv.gr hv g2) r2, Sv.lk hu r2, hg, fun v' H' F' g' r' hw => ?_⟩
    exact k v' H' F' as2 ((g1.trans g2).trans g') r' (rO_ok _ _ _ _ _ _ _ (fun a ha => (g1.trans g2).dm a ha) hw)
  · cases e
theorem oe_bin {e1 e2 : Expr} {pos : Pos} {op : Operator} {g : D → D → Option D} {ma mb : M D} (ho : OpD X (binaryOp op) g) (ha : SE X md P e1 ma) (hb : SE X md P e2 mb) : OE X md P (.BinOp e1 op e2 pos) (mBin g ma mb) :=
  (pe_op ho ha hb).imp fun _ _ _ => bin_go
theorem oe_cmp {e1 e2 : Expr} {pos : Pos} {op : CmpOp} {g : D → D → Option D} {ma mb : M D} (ho : OpD X (compareOp op) g) (ha : SE X md P e1 ma) (hb : SE X md P e2 mb) (hm : behindInMarks op e2 = false) : OE X md P (.Compare e1 [op] [e2] pos) (mBin g ma mb) :=
  (pe_cmpR ho ha hb hm).imp fun _ _ _ => bin_go
def mTest (m : M D) : M Bool := fun ρ O => (m ρ O).bind fun d O1 => match d with
  | .bl b => .ok b O1
  | _ => .no
theorem test_go {K : Frag} {mg : Str → Option Value} {m : M D} {σ : St} {H : Hp} {Q : Bool → Hp → Prop} (h : tMT K mg md P (mTest m) σ H Q) : tTest (tM K mg md P (rO K) m) σ H Q := by
  obtain ⟨ρ, O, F, as, d, O', r, sl, e, k⟩ := h
  obtain ⟨d, O1, e1, e⟩ := Res.bind_ok e
  cases d with
  | bl c =>
    cases e
    refine ⟨ρ, _, F, as, _, _, r, sl, e1, fun v H1 F1 as1 g1 r1 hv => ?_⟩
    rcases hv with ⟨_, hv⟩ | ⟨a, xs, ds, _, e2, _⟩
    · exact ⟨_, hv.unB, k H1 F1 as1 g1 r1⟩
    · cases e2
  | _ => cases e
theorem ts_cmp {e1 e2 : Expr} {pos : Pos} {op : CmpOp} {g : D → D → Option D} {ma mb : M D} (ho : OpD X (compareOp op) g) (ha : SE X md P e1 ma) (hb : SE X md P e2 mb) (hm : behindInMarks op e2 = false) : TsE X md P (.Compare e1 [op] [e2] pos) (mTest (mBin g ma mb)) :=
  (pt_cmpR ho ha hb hm).imp fun σ H Q h => by
    have q := test_go h
    exact bin_go q
def mChain (g g' : D → D → Option D) (ma mb mc : M D) : M D := fun ρ O => (ma ρ O).bind fun x O1 => (mb ρ O1).bind fun y O2 => match g (deref O2 x) (deref O2 y) with
  | some (.bl true) => (mc ρ O2).bind fun z O3 => match g' (deref O3 y) (deref O3 z) with
    | some d => .ok d O3
    | none => .no
  | some (.bl false) => .ok (.bl false) O2
  | _ => .no
theorem chain_go {K : Frag} {mg : Str → Option Value} {g g' : D → D → Option D} {ma mb mc : M D} {σ : St} {H : Hp} {Q : VK} (h : tM K mg md P (rO K) (mChain g g' ma mb mc) σ H Q) :
    tChain (rD K mg g) (rD K mg g') (tM K mg md P (rS K) ma) (tM K mg md P (rS K) mb) (tM K mg md P (rS K) mc) σ H Q := by
  obtain ⟨ρ, O, F, as, d, O', r, sl, e, k⟩ := h
  obtain ⟨x, O1, e1, e⟩ := Res.bind_ok e
  obtain ⟨y, O2, e2, e⟩ := Res.bind_ok e
  refine ⟨ρ, _, F, as, _, _, r, sl, e1, fun v H1 F1 as1 g1 r1 hv => ?_⟩
  refine ⟨ρ, _, F1, as1, _, _, r1, sl.step g1, e2, fun u H2 F2 as2 g2 r2 hu => ?_⟩
  split at e
  · rename_i hg
    obtain ⟨z, O3, e3, e⟩ := Res.bind_ok e
    refine ⟨_, F2, as2, _, _, _, r2, Sv.lk (Sv.gr hv g2) r2, Sv.lk hu r2, hg, fun v' H' F' g' r' hw => ?_⟩
    rcases hw with ⟨_, hw⟩ | ⟨a, xs, ds, _, z, _⟩
    · refine ⟨true, hw.unB, ?_⟩
      rw [if_pos rfl]
      split at e
      · rename_i d' hg'
        cases e
        have g3 := (g1.trans g2).trans g'
        refine ⟨ρ, _, F', as2, _, _, r', sl.step g3, e3, fun w H4 F4 as4 g4 r4 hz => ?_⟩
        refine ⟨_, F4, as4, _, _, _, r4, Sv.lk (Sv.gr (Sv.gr hu g') g4) r4, Sv.lk hz r4, hg', fun v5 H5 F5 g5 r5 hw5 => ?_⟩
        exact k v5 H5 F5 as4 ((g3.trans g4).trans g5) r5 (rO_ok _ _ _ _ _ _ _ (fun a ha => (g3.trans g4).dm a ha) hw5)
      · cases e
    · cases z
  · rename_i hg
    cases e
    refine ⟨_, F2, as2, _, _, _, r2, Sv.lk (Sv.gr hv g2) r2, Sv.lk hu r2, hg, fun v' H' F' g' r' hw => ?_⟩
    rcases hw with ⟨_, hw⟩ | ⟨a, xs, ds, _, z, _⟩
    · refine ⟨false, hw.unB, ?_⟩
      rw [if_neg Bool.false_ne_true]
      exact k _ H' F' as2 ((g1.trans g2).trans g') r' (.inl ⟨rfl, Rp.bl⟩)
    · cases z
  · cases e
theorem oe_chain {a b c : Expr} {pos : Pos} {op op' : CmpOp} {g g' : D → D → Option D} {ma mb mc : M D} (ho : OpD X (compareOp op) g) (ho' : OpD X (compareOp op') g') (ha : SE X md P a ma) (hb : SE X md P b mb) (hc : SE X md P c mc)
    (hm : lastMarks [op, op'] [b, c] = false := by with_unfolding_all rfl) : OE X md P (.Compare a [op, op'] [b, c] pos) (mChain g g' ma mb mc) := (pe_chain ho ho' ha hb hc hm).imp fun _ _ _ => chain_go
theorem ts_chain {a b c : Expr} {pos : Pos} {op op' : CmpOp} {g g' : D → D → Option D} {ma mb mc : M D} (ho : OpD X (compareOp op) g) (ho' : OpD X (compareOp op') g') (ha : SE X md P a ma) (hb : SE X md P b mb) (hc : SE X md P c mc)
    (hm : lastMarks [op, op'] [b, c] = false := by with_unfolding_all rfl) : TsE X md P (.Compare a [op, op'] [b, c] pos) (mTest (mChain g g' ma mb mc)) := (pt_chain ho ho' ha hb hc hm).imp fun _ _ _ h => chain_go (test_go h)
def isNon : D → Bool
  | .non => true
  | _ => false
def mIsN (m : M D) : M D := fun ρ O => (m ρ O).bind fun d O1 => .ok (.bl (isNon d)) O1
def mNotN (m : M D) : M D := fun ρ O => (m ρ O).bind fun d O1 => .ok (.bl (!isNon d)) O1
def truD : D → Option Bool
  | .non => some false
  | .bl b => some b
  | .int i => some (i != 0)
  | .str l => if l.length ≤ 1000000 then some (!l.isEmpty) else none
  | .lst ds => some (!ds.isEmpty)
  | .tup ds => some (!ds.isEmpty)
  | .dic ks _ => some (!ks.isEmpty)
  | .ob _ => none
def mTru (m : M D) : M Bool := fun ρ O => (m ρ O).bind fun d O1 => match truD (deref O1 d) with
  | some b => .ok b O1
  | none => .no
theorem empty_len {α β : Type} {xs : List α} {ys : List β} (h : xs.length = ys.length) : (!xs.isEmpty) = !ys.isEmpty := by
  cases xs <;> cases ys <;> simp_all
theorem Lk.tru {K : Frag} {H F : Hp} {as : List Addr} {v : V} {d : D} {b : Bool} (h : Lk K H F as v d) (fh : Same F H) (e : truD d = some b) : TruV K v H b := by
  cases d with
  | non => rw [(h.rp rfl).unN]; cases e; rfl
  | bl b => rw [(h.rp rfl).unB]; cases e; rfl
  | int b => rw [(h.rp rfl).unI]; cases e; rfl
  | str l =>
    rw [(h.rp rfl).unS]
    simp only [truD] at e
    split at e
    · rename_i hl
      cases e
      refine ⟨by rw [S_length]; exact size6 hl, ?_⟩
      rw [S_length]
      cases l with
      | nil => rfl
      | cons c l =>
        have : ((((c :: l).length : Nat) : Int) != 0) = true := by
          rw [bne_iff_ne, List.length_cons]
          omega
        rw [this]
        rfl
    · cases e
  | lst ds =>
    obtain ⟨a, xs, rfl, h1, h2⟩ := h.list fh
    cases e
    exact .inl ⟨xs, h1.sq, (empty_len h2.length).symm⟩
  | tup ds =>
    obtain ⟨a, xs, rfl, h1, h2⟩ := (h.rp rfl).unT
    cases e
    exact .inr (.inl ⟨xs, Same.seqT fh h1, (empty_len h2.length).symm⟩)
  | dic ks vs =>
    obtain ⟨a, kvs, rfl, h1, rfl, h2⟩ := (h.rp rfl).unD
    cases e
    exact .inr (.inr ⟨kvs, fh _ _ h1, by cases kvs <;> rfl⟩)
  | ob n => cases e
theorem ts_val {a : Expr} {m : M D} (h : SE X md P a m) (he : ∀ whole, isTrue a X.env whole = (do let v ← whole; standAt a.pos; holding [v] (truthy v)) := by intro _; rfl) : TsE X md P a (mTru m) := (pt_truth h he).imp fun σ H Q q => by
  obtain ⟨ρ, O, F, as, d, O', r, sl, e, k⟩ := q
  obtain ⟨d, O1, e1, e⟩ := Res.bind_ok e
  split at e
  · rename_i c hc
    cases e
    exact ⟨ρ, _, F, as, _, _, r, sl, e1, fun v H1 F1 as1 g1 r1 hv => ⟨_, Lk.tru (Sv.lk hv r1) r1.fh hc, k H1 F1 as1 g1 r1⟩⟩
  · cases e
def mtAnd (a b : M Bool) : M Bool := fun ρ O => (a ρ O).bind fun c O1 => if c = true then b ρ O1 else .ok false O1
def mtOr (a b : M Bool) : M Bool := fun ρ O => (a ρ O).bind fun c O1 => if c = true then .ok true O1 else b ρ O1
def mtNot (a : M Bool) : M Bool := fun ρ O => (a ρ O).bind fun c O1 => .ok (!c) O1
theorem tand_go {K : Frag} {mg : Str → Option Value} {ma mb : M Bool} {σ : St} {H : Hp} {Q : Bool → Hp → Prop} (h : tMT K mg md P (mtAnd ma mb) σ H Q) : tAnd (tMT K mg md P ma) (tMT K mg md P mb) σ H Q := by
  obtain ⟨ρ, O, F, as, d, O', r, sl, e, k⟩ := h
  obtain ⟨c, O1, e1, e⟩ := Res.bind_ok e
  refine ⟨ρ, _, F, as, _, _, r, sl, e1, fun H1 F1 as1 g1 r1 => ?_⟩
  cases c with
  | true =>
    rw [if_pos rfl] at e ⊢
    exact ⟨ρ, _, F1, as1, _, _, r1, sl.step g1, e, fun H2 F2 as2 g2 r2 => k H2 F2 as2 (g1.trans g2) r2⟩
  | false =>
    rw [if_neg Bool.false_ne_true] at e ⊢
    cases e
    exact k H1 F1 as1 g1 r1
theorem tor_go {K : Frag} {mg : Str → Option Value} {ma mb : M Bool} {σ : St} {H : Hp} {Q : Bool → Hp → Prop} (h : tMT K mg md P (mtOr ma mb) σ H Q) : tOr (tMT K mg md P ma) (tMT K mg md P mb) σ H Q := by
  obtain ⟨ρ, O, F, as, d, O', r, sl, e, k⟩ := h
  obtain ⟨c, O1, e1, e⟩ := Res.bind_ok e
  refine ⟨ρ, _, F, as, _, _, r, sl, e1, fun H1 F1 as1 g1 r1 => ?_⟩
  cases c with
  | true =>
    rw [if_pos rfl] at e ⊢
    cases e
    exact k H1 F1 as1 g1 r1
  | false =>
    rw [if_neg Bool.false_ne_true] at e ⊢
    exact ⟨ρ, _, F1, as1, _, _, r1, sl.step g1, e, fun H2 F2 as2 g2 r2 => k H2 F2 as2 (g1.trans g2) r2⟩
theorem tw_and1 {a : Expr} {pos : Pos} {m : M Bool} (h : TsE X md P a m) : TwE X md P (.BoolOp .And [a] pos) m := pw_and1 h
theorem tw_or1 {a : Expr} {pos : Pos} {m : M Bool} (h : TsE X md P a m) : TwE X md P (.BoolOp .Or [a] pos) m := pw_or1 h
theorem tw_and {a b : Expr} {rest : List Expr} {pos : Pos} {ma mb : M Bool} (ha : TsE X md P a ma) (hb : TwE X md P (.BoolOp .And (b :: rest) pos) mb) : TwE X md P (.BoolOp .And (a :: b :: rest) pos) (mtAnd ma mb) := (pw_and ha hb).imp fun _ _ _ => tand_go
theorem tw_or {a b : Expr} {rest : List Expr} {pos : Pos} {ma mb : M Bool} (ha : TsE X md P a ma) (hb : TwE X md P (.BoolOp .Or (b :: rest) pos) mb) : TwE X md P (.BoolOp .Or (a :: b :: rest) pos) (mtOr ma mb) := (pw_or ha hb).imp fun _ _ _ => tor_go
theorem ts_w {e : Expr} {m : M Bool} (h : TwE X md P e m) : TsE X md P e m := PW.pt h
theorem ts_not {a : Expr} {pos : Pos} {m : M Bool} (h : TsE X md P a m) : TsE X md P (.UnaryOp .Not a pos) (mtNot m) := (pt_not h).imp fun σ H Q q => by
  obtain ⟨ρ, O, F, as, d, O', r, sl, e, k⟩ := q
  obtain ⟨c, O1, e1, e⟩ := Res.bind_ok e
  cases e
  exact ⟨ρ, _, F, as, _, _, r, sl, e1, k⟩
def mAndV (ma mb : M D) : M D := fun ρ O => (ma ρ O).bind fun d O1 => match d with
  | .bl true => mb ρ O1
  | .bl false => .ok (.bl false) O1
  | _ => .no
def mOrV (ma mb : M D) : M D := fun ρ O => (ma ρ O).bind fun d O1 => match d with
  | .bl true => .ok (.bl true) O1
  | .bl false => mb ρ O1
  | _ => .no
def mNotV (ma : M D) : M D := fun ρ O => (ma ρ O).bind fun d O1 => match d with
  | .bl b => .ok (.bl (!b)) O1
  | _ => .no
theorem ve_one {a : Expr} {pos : Pos} {op} {m : M D} (h : VE X md P a m) : VE X md P (.BoolOp op [a] pos) m := pe_one h
theorem ve_and {a b : Expr} {rest : List Expr} {pos : Pos} {ma mb : M D} (ha : VE X md P a ma) (hb : VE X md P (.BoolOp .And (b :: rest) pos) mb) : VE X md P (.BoolOp .And (a :: b :: rest) pos) (mAndV ma mb) := (pe_and ha hb).imp fun σ H Q q => by
  obtain ⟨ρ, O, F, as, d, O', r, sl, e, k⟩ := q
  obtain ⟨x, O1, e1, e⟩ := Res.bind_ok e
  refine ⟨ρ, _, F, as, _, _, r, sl, e1, fun v H1 F1 as1 g1 r1 hv => ?_⟩
  cases x with
  | bl c =>
    refine ⟨c, Rp.unB hv, ?_⟩
    cases c with
    | true =>
      rw [if_pos rfl]
      exact ⟨ρ, _, F1, as1, _, _, r1, sl.step g1, e, fun v2 H2 F2 as2 g2 r2 hv2 => k v2 H2 F2 as2 (g1.trans g2) r2 hv2⟩
    | false =>
      rw [if_neg Bool.false_ne_true]
      cases e
      exact k _ H1 F1 as1 g1 r1 Rp.bl
  | _ => cases e
theorem ve_or {a b : Expr} {rest : List Expr} {pos : Pos} {ma mb : M D} (ha : VE X md P a ma) (hb : VE X md P (.BoolOp .Or (b :: rest) pos) mb) : VE X md P (.BoolOp .Or (a :: b :: rest) pos) (mOrV ma mb) := (pe_or ha hb).imp fun σ H Q q => by
  obtain ⟨ρ, O, F, as, d, O', r, sl, e, k⟩ := q
  obtain ⟨x, O1, e1, e⟩ := Res.bind_ok e
  refine ⟨ρ, _, F, as, _, _, r, sl, e1, fun v H1 F1 as1 g1 r1 hv => ?_⟩
  cases x with
  | bl c =>
    refine ⟨c, Rp.unB hv, ?_⟩
    cases c with
    | true =>
      rw [if_pos rfl]
      cases e
      exact k _ H1 F1 as1 g1 r1 Rp.bl
    | false =>
      rw [if_neg Bool.false_ne_true]
      exact ⟨ρ, _, F1, as1, _, _, r1, sl.step g1, e, fun v2 H2 F2 as2 g2 r2 hv2 => k v2 H2 F2 as2 (g1.trans g2) r2 hv2⟩
  | _ => cases e
def mIf (t : M Bool) (a b : M D) : M D := fun ρ O => (t ρ O).bind fun c O1 => if c = true then a ρ O1 else b ρ O1
end
end L2
namespace L2
open PySem PySem.Spec PyProof.Rows
section
variable {K : Frag} {mg : Str → Option Value} {md : List Md} {P : Pt} {R : RR} {ρ : DEnv} {σ : St} {H F H' F' : Hp} {as as' : List Addr} {O O' : Store}
theorem SlO.set {i : Nat} {m : Md} {v : V} {d : D} (s : SlO K md P ρ σ H F as) (hm : md[i]? = some m) (hns : m ≠ .s) (hv : SlotR P K H F as m v d)
    (hj : ∀ (a : Addr) (ds : List D) (j : Nat) (es : List D), m = .o → v = .ref a → d = .lst ds → i ≠ j → md[j]? = some .o → ρ[j]? = some (some (.lst es)) → σ[j]? ≠ some (some (.ref a))) : SlO K md P (ρ.set i (some d)) (σ.set i (some v)) H F as := by
  have hi : i < md.length := (List.getElem?_eq_some_iff.mp hm).1
  refine ⟨by rw [List.length_set]; exact s.len, by rw [List.length_set]; exact s.len', s.pd, fun j m' d' e1 e2 => ?_, fun j k a ds es h1 h2 h3 h4 h5 h6 => ?_, fun x hx => ?_⟩
  · by_cases h : i = j
    · subst h
      rw [hm] at e1; cases e1
      rw [List.getElem?_set_self (by rw [s.len']; exact hi)] at e2
      cases e2
      exact ⟨v, List.getElem?_set_self (by rw [s.len]; exact hi), hv⟩
    · rw [List.getElem?_set_ne h] at e2
      rw [List.getElem?_set_ne h]
      exact s.sl j m' d' e1 e2
  · by_cases hij : i = j
    · by_cases hik : i = k
      · rw [← hij, ← hik]
      · exfalso
        subst hij
        rw [hm] at h1; cases h1
        rw [List.getElem?_set_self (by rw [s.len']; exact hi)] at h3
        rw [List.getElem?_set_self (by rw [s.len]; exact hi)] at h5
        rw [List.getElem?_set_ne hik] at h4 h6
        cases h3; cases h5
        exact hj a ds k es rfl rfl rfl hik h2 h4 h6
    · by_cases hik : i = k
      · exfalso
        subst hik
        rw [hm] at h2; cases h2
        rw [List.getElem?_set_self (by rw [s.len']; exact hi)] at h4
        rw [List.getElem?_set_self (by rw [s.len]; exact hi)] at h6
        rw [List.getElem?_set_ne hij] at h3 h5
        cases h4; cases h6
        exact hj a es j ds rfl rfl rfl hij h1 h3 h5
      · rw [List.getElem?_set_ne hij] at h3 h5
        rw [List.getElem?_set_ne hik] at h4 h6
        exact s.inj j k a ds es h1 h2 h3 h4 h5 h6
  · obtain ⟨p1, p2, p3⟩ := s.pin x hx
    have hne : i ≠ x.1 := fun z => by
      rw [← z, hm] at p1
      exact hns (Option.some.inj p1)
    exact ⟨p1, by rw [List.getElem?_set_ne hne]; exact p2, by rw [List.getElem?_set_ne hne]; exact p3⟩
theorem SlO.setV {i : Nat} {v : V} {d : D} (s : SlO K md P ρ σ H F as) (hm : md[i]? = some .v) (hv : Rp K F as v d) : SlO K md P (ρ.set i (some d)) (σ.set i (some v)) H F as :=
  s.set hm (by decide) hv fun _ _ _ _ z => nomatch z
theorem SlO.setN {i : Nat} {v : V} {d : D} (s : SlO K md P ρ σ H F as) (hm : md[i]? = some .o) (hn : notL d = true) (hv : Rp K F as v d) : SlO K md P (ρ.set i (some d)) (σ.set i (some v)) H F as :=
  s.set hm (by decide) (.inl ⟨hn, hv⟩) fun _ _ _ _ _ _ z => by subst z; cases hn
theorem SlO.setO {i : Nat} {v : V} {d : D} {H0 : Hp} (s : SlO K md P ρ σ H0 F as) (g : Gr H0 F as H' F' as') (hm : md[i]? = some .o) (hv : Ow K (fun a => H0 a = none) H' F' as' v d) : SlO K md P (ρ.set i (some d)) (σ.set i (some v)) H' F' as' := by
  have s' := s.step g
  rcases hv with ⟨hn, hv⟩ | ⟨a, xs, ds, rfl, rfl, e3, e4, e5, e6, e7⟩
  · exact s'.setN hm hn hv
  · refine s'.set hm (by decide) (.inr ⟨a, xs, ds, rfl, rfl, e3, e4, e5, fun p => s.pd a p e6, e7⟩) fun b ds' j es _ hb hd hij hj he hs => ?_
    cases hb
    obtain ⟨v, h1, h2⟩ := s.sl j .o _ hj he
    rw [hs] at h1; cases h1
    rcases h2 with ⟨h2, _⟩ | ⟨a', xs', _, z1, _, z3, _⟩
    · cases h2
    · cases z1
      rw [e6] at z3; cases z3
end
section
variable {X : Cx} {md : List Md} {P : Pt} {R : RR}
def msNil : MS := fun ρ O => .nx ρ O
def msSeq (a b : MS) : MS := fun ρ O => match a ρ O with
  | .nx ρ' O' => b ρ' O'
  | r => r
theorem vss_nil : VSs X md P R [] msNil := pss_nil.imp fun D σ H q => by
  obtain ⟨ρ, O, F, as, r, s, k⟩ := q
  exact k σ H F as GrS.refl r s
theorem tMS_gr {K : Frag} {mg : Str → Option Value} {D : Ends} {H F H1 F1 : Hp} {as as1 : List Addr} (g : GrS P H F as H1 F1 as1) {f : Fl} (k : FlOk K mg md P R D H F as f) : FlOk K mg md P R D H1 F1 as1 f := by
  cases f with
  | nx ρ' O' => exact fun σ' H' F' as' g' => k σ' H' F' as' (g.trans g')
  | bk ρ' O' => exact fun σ' H' F' as' g' => k σ' H' F' as' (g.trans g')
  | ct ρ' O' => exact fun σ' H' F' as' g' => k σ' H' F' as' (g.trans g')
  | rt d O' => exact fun σ' H' F' as' g' => k σ' H' F' as' (g.trans g')
  | ex _ _ => exact k
  | no => exact k
theorem vss_cons {st : Stmt} {rest : List Stmt} {a b : MS} (h1 : VS X md P R st a) (h2 : VSs X md P R rest b) : VSs X md P R (st :: rest) (msSeq a b) := (pss_cons h1 h2).imp fun D σ H q => by
  obtain ⟨ρ, O, F, as, r, s, k⟩ := q
  refine ⟨ρ, O, F, as, r, s, ?_⟩
  unfold msSeq at k
  cases e : a ρ O with
  | nx ρ' O' =>
    rw [e] at k
    dsimp only at k
    exact fun σ' H' F' as' g r' s' => ⟨ρ', O', F', as', r', s', tMS_gr g k⟩
  | bk ρ' O' => rw [e] at k; exact k
  | ct ρ' O' => rw [e] at k; exact k
  | rt d O' => rw [e] at k; exact k
  | ex x O' => rw [e] at k; exact k
  | no => rw [e] at k; exact k
theorem vss_one {st : Stmt} {a : MS} (h1 : VS X md P R st a) : VSs X md P R [st] a := pss_one h1
def msDrop (m : M D) : MS := fun ρ O => match m ρ O with
  | .ok _ O' => .nx ρ O'
  | .ex x O' => .ex x O'
  | .no => .no
def msRet (m : M D) : MS := fun ρ O => match m ρ O with
  | .ok d O' => .rt d O'
  | .ex x O' => .ex x O'
  | .no => .no
theorem vs_ret (hR : RRok R) {e : Expr} {pos : Pos} {m : M D} (h : PE X e (tM X.K X.mg md P R m)) : VS X md P R (.Return (some e) pos) (msRet m) := (ps_ret h).imp fun D σ H q => by
  obtain ⟨ρ, O, F, as, r, s, k⟩ := q
  unfold msRet at k
  cases e : m ρ O with
  | ok d O' =>
    rw [e] at k
    exact ⟨ρ, _, F, as, _, _, r, s, e, fun v H' F' as' g r' hv => k v H' F' as' g.toS r' (hR _ _ _ _ _ _ _ (fun a ha p => s.pd a p ha) hv)⟩
  | ex x O' => rw [e] at k; exact False.elim k
  | no => rw [e] at k; exact False.elim k
theorem vs_retV {e : Expr} {pos : Pos} {m : M D} (h : VE X md P e m) : VS X md P (rV X.K) (.Return (some e) pos) (msRet m) := vs_ret rV_ok h
theorem vs_retX (i : Nat) {x : Str} {p pos : Pos} (hm : md[i]? = some .o := by rfl) (hN : X.N[i]? = some x := by rfl) (hv : Vis X.env.scope x := by first | exact Or.inl rfl | exact Or.inr (Or.inl rfl) | exact Or.inr (Or.inr rfl))
    (hd : (x == ("__debug__" : Str)) = false := by decide) (hcd : (x == ("__classdict__" : Str)) = false := by decide) : VS X md P (rO X.K) (.Return (some (.Name x p)) pos) (msRet (mVar i)) := (ps_ret (pe_var (i := i) hN hv hd hcd)).imp fun D σ H q => by
  obtain ⟨ρ, O, F, as, r, s, k⟩ := q
  unfold msRet at k
  cases e : mVar i ρ O with
  | ok d O' =>
    rw [e] at k
    obtain ⟨e1, rfl⟩ := mVar_ok e
    obtain ⟨v, h1, h2⟩ := s.sl i .o d hm e1
    refine ⟨v, h1, k v H F as GrS.refl r ?_⟩
    rcases h2 with h2 | ⟨a, xs, ds, e1, e2, e3, e0, e4, e5, e6⟩
    · exact .inl h2
    · exact .inr ⟨a, xs, ds, e1, e2, e3, e0, e4, e5, e6⟩
  | ex x O' => rw [e] at k; exact False.elim k
  | no => rw [e] at k; exact False.elim k
def msIf (t : M Bool) (a b : MS) : MS := fun ρ O => match t ρ O with
  | .ok c O' => if c = true then a ρ O' else b ρ O'
  | .ex x O' => .ex x O'
  | .no => .no
theorem vs_if {c : Expr} {a b : List Stmt} {pos : Pos} {t : M Bool} {ma mb : MS} (hc : TsE X md P c t) (ha : VSs X md P R a ma) (hb : VSs X md P R b mb) : VS X md P R (.If c a b pos) (msIf t ma mb) := (ps_if hc ha hb).imp fun D σ H q => by
  obtain ⟨ρ, O, F, as, r, s, k⟩ := q
  unfold msIf at k
  cases e : t ρ O with
  | ok c O' =>
    rw [e] at k
    refine ⟨ρ, _, F, as, _, _, r, s, e, fun H1 F1 as1 g r1 => ?_⟩
    dsimp only at k
    cases c with
    | true =>
      rw [if_pos rfl] at k ⊢
      exact ⟨ρ, O', F1, as1, r1, s.step g, tMS_gr g.toS k⟩
    | false =>
      rw [if_neg Bool.false_ne_true] at k ⊢
      exact ⟨ρ, O', F1, as1, r1, s.step g, tMS_gr g.toS k⟩
  | ex x O' => rw [e] at k; exact False.elim k
  | no => rw [e] at k; exact False.elim k
def msSet (i : Nat) (m : M D) : MS := fun ρ O => match m ρ O with
  | .ok d O' => .nx (ρ.set i (some d)) O'
  | .ex x O' => .ex x O'
  | .no => .no
theorem setV_go {K : Frag} {mg : Str → Option Value} {i : Nat} {m : M D} {t : TE} (hm : md[i]? = some .v) (ht : ∀ σ H Q, tM K mg md P (rV K) m σ H Q → t σ H Q) {D : Ends} {σ : St} {H : Hp} (q : tMS K mg md P R (msSet i m) D σ H) : tAsg t (gName i) D σ H := by
  obtain ⟨ρ, O, F, as, r, s, k⟩ := q
  unfold msSet at k
  cases e : m ρ O with
  | ok d O' =>
    rw [e] at k
    exact ht _ _ _ ⟨ρ, _, F, as, _, _, r, s, e, fun v H' F' as' g r' hv => k _ H' F' as' g.toS r' ((s.step g).setV hm hv)⟩
  | ex x O' => rw [e] at k; exact False.elim k
  | no => rw [e] at k; exact False.elim k
theorem setO_go {K : Frag} {mg : Str → Option Value} {i : Nat} {m : M D} {t : TE} (hm : md[i]? = some .o) (ht : ∀ σ H Q, tM K mg md P (rO K) m σ H Q → t σ H Q) {D : Ends} {σ : St} {H : Hp} (q : tMS K mg md P R (msSet i m) D σ H) : tAsg t (gName i) D σ H := by
  obtain ⟨ρ, O, F, as, r, s, k⟩ := q
  unfold msSet at k
  cases e : m ρ O with
  | ok d O' =>
    rw [e] at k
    exact ht _ _ _ ⟨ρ, _, F, as, _, _, r, s, e, fun v H' F' as' g r' hv => k _ H' F' as' g.toS r' (s.setO g hm hv)⟩
  | ex x O' => rw [e] at k; exact False.elim k
  | no => rw [e] at k; exact False.elim k
theorem vs_setV {i : Nat} {x : Str} {e : Expr} {pos pos' : Pos} {m : M D} (hN : X.N.Nodup) (hi : X.N[i]? = some x) (hx : Loc X.env.scope x) (h : VE X md P e m) (hm : md[i]? = some .v := by rfl) (hs : swapsWith e (some (.Name x pos')) pos.line X.env = pure false := by rfl)
    (hf : X.fn x = true ∨ X.env.scope.names.lookup x = some .local := by first | exact .inl rfl | exact .inr rfl | assumption) : VS X md P R (.Assign [.Name x pos'] e pos) (msSet i m) := (ps_set (i := i) hN hi hx h hs hf).imp fun D σ H q => setV_go hm (fun _ _ _ z => z) q
theorem vs_setO {i : Nat} {x : Str} {e : Expr} {pos pos' : Pos} {m : M D} (hN : X.N.Nodup) (hi : X.N[i]? = some x) (hx : Loc X.env.scope x) (h : OE X md P e m) (hm : md[i]? = some .o := by rfl) (hs : swapsWith e (some (.Name x pos')) pos.line X.env = pure false := by rfl)
    (hf : X.fn x = true ∨ X.env.scope.names.lookup x = some .local := by first | exact .inl rfl | exact .inr rfl | assumption) : VS X md P R (.Assign [.Name x pos'] e pos) (msSet i m) := (ps_set (i := i) hN hi hx h hs hf).imp fun D σ H q => setO_go hm (fun _ _ _ z => z) q
abbrev MG := D → DEnv → Option DEnv
def tMG (K : Frag) (mg : Str → Option Value) (md : List Md) (P : Pt) (g : MG) : TG := fun v σ H Q => ∃ ρ O F as d ρ', RlO K mg O H F as ∧ SlO K md P ρ σ H F as ∧ Rp K F as v d ∧ g d ρ = some ρ' ∧ ∀ σ', SlO K md P ρ' σ' H F as → Q σ' H
def tMGs (K : Frag) (mg : Str → Option Value) (md : List Md) (P : Pt) (g : List D → DEnv → Option DEnv) : TGs := fun vs σ H Q => ∃ ρ O F as ds ρ', RlO K mg O H F as ∧ SlO K md P ρ σ H F as ∧ Rps K F as vs ds ∧ g ds ρ = some ρ' ∧ ∀ σ', SlO K md P ρ' σ' H F as → Q σ' H
def VG (X : Cx) (md : List Md) (P : Pt) (tg : Expr) (g : MG) : Prop := PG X tg (tMG X.K X.mg md P g)
def VGs (X : Cx) (md : List Md) (P : Pt) (tg : List Expr) (g : List D → DEnv → Option DEnv) : Prop := PGs X tg (tMGs X.K X.mg md P g)
theorem PG.imp {e : Expr} {t t' : TG} (h : PG X e t) (k : ∀ v σ H Q, t' v σ H Q → t v σ H Q) : PG X e t' := fun pins s σ H v u Q I r q => h pins s σ H v u Q I r (k v σ H Q q)
theorem PGs.imp {e : List Expr} {t t' : TGs} (h : PGs X e t) (k : ∀ v σ H Q, t' v σ H Q → t v σ H Q) : PGs X e t' := fun pins s σ H v u Q I r q => h pins s σ H v u Q I r (k v σ H Q q)
def mgN (i : Nat) : MG := fun d ρ => some (ρ.set i (some d))
theorem vg_name {i : Nat} {x : Str} {pos : Pos} (hN : X.N.Nodup) (hi : X.N[i]? = some x) (hx : Loc X.env.scope x) (hm : md[i]? = some .v := by rfl) (hf : X.fn x = true ∨ X.env.scope.names.lookup x = some .local := by first | exact .inl rfl | exact .inr rfl | assumption) : VG X md P (.Name x pos) (mgN i) :=
  (pg_name (i := i) hN hi hx hf).imp fun v σ H Q q => by
    obtain ⟨ρ, O, F, as, d, ρ', r, s, hv, e, k⟩ := q
    cases e
    exact k _ (s.setV hm hv)
def mgsNil : List D → DEnv → Option DEnv := fun ds ρ => match ds with
  | [] => some ρ
  | _ => none
def mgsCons (g : MG) (r : List D → DEnv → Option DEnv) : List D → DEnv → Option DEnv := fun ds ρ => match ds with
  | d :: ds => (g d ρ).bind fun ρ1 => r ds ρ1
  | [] => none
def mgN' (n : Nat) (r : List D → DEnv → Option DEnv) : MG := fun d ρ => match d with
  | .tup ds => if ds.length = n then r ds ρ else none
  | _ => none
def msAsg (m : M D) (g : MG) : MS := fun ρ O => match m ρ O with
  | .ok d O' => match g d ρ with
    | some ρ' => .nx ρ' O'
    | none => .no
  | .ex x O' => .ex x O'
  | .no => .no
end
end L2
namespace L2
open PySem PySem.Spec PyProof.Rows
structure JOk (K : Frag) (mg : Str → Option Value) (P : Pt) (J : It) (ds : List D) (H F : Hp) (as : List Addr) : Prop where
  turn : ∀ (i : Nat) (d : D) (H2 F2 : Hp) (as2 : List Addr), GrS P H F as H2 F2 as2 → (∃ O, RlO K mg O H2 F2 as2) → ds[i]? = some d → J.go i H2 ∧ ∀ x H3, J.yld i H2 x H3 → ∃ F3, Gr H2 F2 as2 H3 F3 as2 ∧ (∀ O, RlO K mg O H2 F2 as2 → RlO K mg O H3 F3 as2) ∧ Rp K F3 as2 x d
  stop : ∀ (H2 F2 : Hp) (as2 : List Addr), GrS P H F as H2 F2 as2 → (∃ O, RlO K mg O H2 F2 as2) → J.stop ds.length H2
structure JOkE (K : Frag) (mg : Str → Option Value) (J : It) (ds : List D) (H F : Hp) (as : List Addr) : Prop where
  turn : ∀ (i : Nat) (d : D) (H2 F2 : Hp) (as2 : List Addr), Gr H F as H2 F2 as2 → (∃ O, RlO K mg O H2 F2 as2) → ds[i]? = some d → J.go i H2 ∧ ∀ x H3, J.yld i H2 x H3 → ∃ F3, Gr H2 F2 as2 H3 F3 as2 ∧ (∀ O, RlO K mg O H2 F2 as2 → RlO K mg O H3 F3 as2) ∧ Rp K F3 as2 x d
  stop : ∀ (H2 F2 : Hp) (as2 : List Addr), Gr H F as H2 F2 as2 → (∃ O, RlO K mg O H2 F2 as2) → J.stop ds.length H2
theorem JOk.e {K : Frag} {mg : Str → Option Value} {P : Pt} {J : It} {ds : List D} {H F : Hp} {as : List Addr} (h : JOk K mg P J ds H F as) : JOkE K mg J ds H F as := ⟨fun i d H2 F2 as2 g => h.turn i d H2 F2 as2 g.toS, fun H2 F2 as2 g => h.stop H2 F2 as2 g.toS⟩
def tMIc (K : Frag) (mg : Str → Option Value) (md : List Md) (P : Pt) (m : M (List D)) : TI := fun σ H Q => ∃ ρ O F as ds O', RlO K mg O H F as ∧ SlO K md P ρ σ H F as ∧ m ρ O = .ok ds O' ∧
  ∀ J H' F' as', Gr H F as H' F' as' → RlO K mg O' H' F' as' → JOkE K mg J ds H' F' as' → Q J H'
def VIc (X : Cx) (md : List Md) (P : Pt) (tg iter : Expr) (m : M (List D)) : Prop := PI X tg iter (tMIc X.K X.mg md P m)
def tMI (K : Frag) (mg : Str → Option Value) (md : List Md) (P : Pt) (m : M (List D)) : TI := fun σ H Q => ∃ ρ O F as ds O', RlO K mg O H F as ∧ SlO K md P ρ σ H F as ∧ m ρ O = .ok ds O' ∧
  ∀ J H' F' as', Gr H F as H' F' as' → RlO K mg O' H' F' as' → JOk K mg P J ds H' F' as' → Q J H'
def VI (X : Cx) (md : List Md) (P : Pt) (tg iter : Expr) (m : M (List D)) : Prop := PI X tg iter (tMI X.K X.mg md P m)
section
variable {X : Cx} {md : List Md} {P : Pt} {R : RR}
theorem PI.imp {tg e : Expr} {t t' : TI} (h : PI X tg e t) (k : ∀ σ H Q, t' σ H Q → t σ H Q) : PI X tg e t' := fun pins s σ H Q I q => h pins s σ H Q I (k σ H Q q)
theorem vic_vi {tg e : Expr} {m : M (List D)} (h : VI X md P tg e m) : VIc X md P tg e m := h.imp fun σ H Q q => by
  obtain ⟨ρ, O, F, as, ds, O', r, s, e, k⟩ := q
  exact ⟨ρ, O, F, as, ds, O', r, s, e, fun J H' F' as' g r' hJ => k J H' F' as' g r' hJ.e⟩
def floop (g : MG) (b : MS) : List D → MS
  | [], ρ, O => .nx ρ O
  | d :: ds, ρ, O => match g d ρ with
    | none => .no
    | some ρ1 => match b ρ1 O with
      | .nx ρ2 O2 => floop g b ds ρ2 O2
      | .ct ρ2 O2 => floop g b ds ρ2 O2
      | .bk ρ2 O2 => .nx ρ2 O2
      | r => r
def msFor (m : M (List D)) (g : MG) (b : MS) : MS := fun ρ O => match m ρ O with
  | .ok ds O' => floop g b ds ρ O'
  | .ex x O' => .ex x O'
  | .no => .no
theorem for_go {K : Frag} {mg : Str → Option Value} {m : M (List D)} {g : MG} {b : MS} {D : Ends} {σ : St} {H : Hp} (q : tMS K mg md P R (msFor m g b) D σ H) : tFor (tMI K mg md P m) (tMG K mg md P g) (tMS K mg md P R b) D σ H := by
  obtain ⟨ρ, O, F, as, r, s, k⟩ := q
  unfold msFor at k
  cases e : m ρ O with
  | ex x O' => rw [e] at k; exact False.elim k
  | no => rw [e] at k; exact False.elim k
  | ok ds O1 =>
    rw [e] at k
    dsimp only at k
    refine ⟨ρ, _, F, as, _, _, r, s, e, fun J H1 F1 as1 g1 r1 hJ => ?_⟩
    have k1 := tMS_gr (R := R) g1.toS k
    refine ⟨fun i m σ' H' => m = ds.length - i ∧ i ≤ ds.length ∧ ∃ ρ' O' F' as', GrS P H1 F1 as1 H' F' as' ∧ RlO K mg O' H' F' as' ∧ SlO K md P ρ' σ' H' F' as' ∧ FlOk K mg md P R D H' F' as' (floop g b (ds.drop i) ρ' O'), ⟨ds.length, by simp, Nat.zero_le _, ρ, O1, F1, as1, GrS.refl, r1, s.step g1, by rw [List.drop_zero]; exact k1⟩, ?_⟩
    rintro i n σ' H' ⟨rfl, hi, ρ', O', F', as', g', r', s', k'⟩
    by_cases hlt : i < ds.length
    · have hd := List.getElem?_eq_getElem hlt
      obtain ⟨go, yl⟩ := hJ.turn i _ H' F' as' g' ⟨O', r'⟩ hd
      rw [List.drop_eq_getElem_cons hlt] at k'
      refine .inr ⟨go, fun σ2 H2 => ∃ ρ2 O2 F2 as2, GrS P H1 F1 as1 H2 F2 as2 ∧ RlO K mg O2 H2 F2 as2 ∧ SlO K md P ρ2 σ2 H2 F2 as2 ∧ FlOk K mg md P R D H2 F2 as2 (floop g b (ds.drop (i + 1)) ρ2 O2), fun σ2 H2 h2 => ⟨ds.length - (i + 1), by omega, rfl, hlt, h2⟩, fun x H3 y => ?_⟩
      obtain ⟨F3, g3, r3, hx⟩ := yl x H3 y
      have r3' := r3 O' r'
      unfold floop at k'
      cases eg : g ds[i] ρ' with
      | none => rw [eg] at k'; exact False.elim k'
      | some ρ1 =>
        rw [eg] at k'
        dsimp only at k'
        refine ⟨ρ', O', F3, as', ds[i], ρ1, r3', s'.step g3, hx, eg, fun σ4 s4 => ?_⟩
        refine ⟨ρ1, O', F3, as', r3', s4, ?_⟩
        have g4 : GrS P H1 F1 as1 H3 F3 as' := g'.trans g3.toS
        have keep := fun {f} => tMS_gr (K := K) (mg := mg) (md := md) (R := R) (D := D) (f := f) (g3.toS (P := P))
        cases eb : b ρ1 O' with
        | nx ρ2 O2 =>
          rw [eb] at k'
          exact fun σ2 H2 F2 as2 g2 r2 s2 => ⟨ρ2, O2, F2, as2, g4.trans g2, r2, s2, tMS_gr g2 (keep k')⟩
        | ct ρ2 O2 =>
          rw [eb] at k'
          exact fun σ2 H2 F2 as2 g2 r2 s2 => ⟨ρ2, O2, F2, as2, g4.trans g2, r2, s2, tMS_gr g2 (keep k')⟩
        | bk ρ2 O2 =>
          rw [eb] at k'
          exact fun σ2 H2 F2 as2 g2 r2 s2 => k' σ2 H2 F2 as2 (g3.toS.trans g2) r2 s2
        | rt d O2 =>
          rw [eb] at k'
          exact fun v H2 F2 as2 g2 r2 s2 => k' v H2 F2 as2 (g3.toS.trans g2) r2 s2
        | ex _ _ => rw [eb] at k'; exact False.elim k'
        | no => rw [eb] at k'; exact False.elim k'
    · have hi' : i = ds.length := by omega
      subst hi'
      refine .inl ⟨hJ.stop H' F' as' g' ⟨O', r'⟩, ?_⟩
      rw [List.drop_length] at k'
      exact k' σ' H' F' as' GrS.refl r' s'
theorem vs_for {tg iter : Expr} {body : List Stmt} {pos : Pos} {m : M (List D)} {g : MG} {b : MS} (hc : X.calm = true) (hi : VI X md P tg iter m) (hg : VG X md P tg g) (hb : VSs X md P R body b) (hp : PassesOwn (model X.prog X.w) X.A X.env X.xe := by exact PassesOwn.never)
    (hs : ∀ x, foldedSetIterable iter X.env x = pure x := by intro _; rfl) : VS X md P R (.For tg iter body [] pos) (msFor m g b) := (ps_for hp hc hi hg hb hs).imp fun _ _ _ q => for_go q
def cloop (g : MG) (t : M Bool) (m : M D) : List D → DEnv → Store → List D → Res (List D)
  | [], ρ, O, acc => .ok acc O
  | d :: ds, ρ, O, acc => match g d ρ with
    | none => .no
    | some ρ1 => match t ρ1 O with
      | .ok true O1 => match m ρ1 O1 with
        | .ok y O2 => cloop g t m ds ρ1 O2 (acc ++ [y])
        | .ex x O' => .ex x O'
        | .no => .no
      | .ok false O1 => cloop g t m ds ρ1 O1 acc
      | .ex x O' => .ex x O'
      | .no => .no
def cEnv (own : Nat) (cap : List Nat) (ρ : DEnv) : DEnv := List.replicate own none ++ cap.map fun j => (ρ[j]?).join
def mComp (m : M (List D)) (own : Nat) (cap : List Nat) (g : MG) (t : M Bool) (e : M D) : M D := fun ρ O => (m ρ O).bind fun ds O1 => if ds.length ≤ 1000000 then (cloop g t e ds (cEnv own cap ρ) O1 []).bind fun ys O2 => .ok (.lst ys) O2 else .no
def mYes : M Bool := fun _ O => .ok true O
def cMd (own : Nat) (cap : List Nat) (md : List Md) : List Md := List.replicate own .v ++ cap.map fun j => match md[j]? with
  | some .v => .v
  | _ => .s
theorem comp_slots {K : Frag} {ρ : DEnv} {σ : St} {H F : Hp} {as : List Addr} {own : List Str} {cap : List Nat} (s : SlO K md P ρ σ H F as) (hcap : ∀ j ∈ cap, j < md.length) : SlO K (cMd own.length cap md) (Pt.all H) (cEnv own.length cap ρ) (compSt own cap σ) H F as := by
  refine ⟨by simp [compSt, cMd], by simp [cEnv, cMd], fun a h => h, fun i m d e1 e2 => ?_, fun i j a ds es h1 => ?_, fun _ z => nomatch z⟩
  · unfold cEnv at e2
    unfold cMd at e1
    unfold compSt
    by_cases hi : i < own.length
    · rw [List.getElem?_append_left (by simpa using hi), List.getElem?_replicate_of_lt hi] at e2
      cases e2
    · have hi' : own.length ≤ i := Nat.le_of_not_lt hi
      rw [List.getElem?_append_right (by simpa using hi'), List.length_replicate, List.getElem?_map] at e2 e1
      rw [List.getElem?_append_right (by simpa using hi'), List.length_map, List.getElem?_map]
      cases q : cap[i - own.length]? with
      | none => rw [q] at e2; cases e2
      | some j =>
        rw [q] at e1 e2
        simp only [Option.map_some, Option.some.injEq] at e1 e2 ⊢
        cases q2 : ρ[j]? with
        | none => rw [q2] at e2; cases e2
        | some o =>
          rw [q2] at e2
          have e2' : o = some d := e2
          subst e2'
          obtain ⟨m0, v, h1, h2, h3⟩ := s.get q2
          rw [h1] at e1
          refine ⟨v, by rw [h2]; rfl, ?_⟩
          cases m0 with
          | v => dsimp only at e1; subst e1; exact h3
          | s =>
            dsimp only at e1; subst e1
            rcases h3 with h3 | ⟨a, xs, ds, e1, e2, e3, e4, e5, e6⟩
            · exact .inl h3
            · exact .inr ⟨a, xs, ds, e1, e2, e3, e4, (show H a ≠ none by rw [e3]; exact fun z => nomatch z), e6⟩
          | o =>
            dsimp only at e1; subst e1
            rcases h3 with ⟨_, h3⟩ | ⟨a, xs, ds, e1, e2, e3, e0, e4, e5, e6⟩
            · exact .inl h3
            · exact .inr ⟨a, xs, ds, e1, e2, e3, e4, (show H a ≠ none by rw [e3]; exact fun z => nomatch z), e6⟩
  · exfalso
    unfold cMd at h1
    by_cases hi : i < own.length
    · rw [List.getElem?_append_left (by simpa using hi), List.getElem?_replicate_of_lt hi] at h1
      cases h1
    · have hi' : own.length ≤ i := Nat.le_of_not_lt hi
      rw [List.getElem?_append_right (by simpa using hi'), List.length_replicate, List.getElem?_map] at h1
      cases q : cap[i - own.length]? with
      | none => rw [q] at h1; cases h1
      | some j =>
        rw [q] at h1
        simp only [Option.map_some, Option.some.injEq] at h1
        split at h1 <;> cases h1
end
end L2
namespace L2
open PySem PySem.Spec PyProof.Rows
section
variable {X : Cx} {md : List Md} {P : Pt} {R : RR}
def xM (K : Frag) (mg : Str → Option Value) (md : List Md) (R : RR) (m : M D) : TE := fun σ H Q => ∃ P, tM K mg md P R m σ H Q
def xMT (K : Frag) (mg : Str → Option Value) (md : List Md) (m : M Bool) : TT := fun σ H Q => ∃ P, tMT K mg md P m σ H Q
def xMG (K : Frag) (mg : Str → Option Value) (md : List Md) (g : MG) : TG := fun v σ H Q => ∃ P, tMG K mg md P g v σ H Q
theorem xm {e : Expr} {m : M D} (h : ∀ P, PE X e (tM X.K X.mg md P R m)) : PE X e (xM X.K X.mg md R m) := fun pins s σ H Q I ⟨P, q⟩ => h P pins s σ H Q I q
theorem xmg {e : Expr} {g : MG} (h : ∀ P, VG X md P e g) : PG X e (xMG X.K X.mg md g) := fun pins s σ H v u Q I r ⟨P, q⟩ => h P pins s σ H v u Q I r q
theorem xmt {e : List Expr} {m : M Bool} (h : ∀ P, PIfs X e (tMT X.K X.mg md P m)) : PIfs X e (xMT X.K X.mg md m) := fun pins s σ H Q I ⟨P, q⟩ => h P pins s σ H Q I q
def VIf (X : Cx) (md : List Md) (P : Pt) (e : List Expr) (m : M Bool) : Prop := PIfs X e (tMT X.K X.mg md P m)
theorem vif_nil : VIf X md P [] mYes := fun pins s σ H Q I q => by
  obtain ⟨ρ, O, F, as, d, O', r, s, e, k⟩ := q
  cases e
  exact pifs_nil pins _ σ H Q I (k H F as Gr.refl r)
theorem comp_go {K : Frag} {mg : Str → Option Value} {m : M (List D)} {own : List Str} {cap : List Nat} {g : MG} {t : M Bool} {e : M D} (hcap : ∀ j ∈ cap, j < md.length) {σ : St} {H : Hp} {Q : VK} (q : tM K mg md P (rO K) (mComp m own.length cap g t e) σ H Q) :
    tComp (tMIc K mg md P m) own cap (xMG K mg (cMd own.length cap md) g) (xMT K mg (cMd own.length cap md) t) (xM K mg (cMd own.length cap md) (rV K) e) σ H Q := by
  obtain ⟨ρ, O, F, as, d, OZ, r, s, eq, k⟩ := q
  obtain ⟨ds, O1, e1, eq⟩ := Res.bind_ok eq
  split at eq
  · rename_i hz
    obtain ⟨yf, O2, e2, eq⟩ := Res.bind_ok eq
    cases eq
    refine ⟨ρ, _, F, as, _, _, r, s, e1, fun J H1 F1 as1 g1 r1 hJ => ?_⟩
    have sb := comp_slots (own := own) (s.step g1) hcap
    refine ⟨fun i n ys σ' H' => n = ds.length - i ∧ i ≤ ds.length ∧ ∃ ρ' O' F' as' acc, Gr H1 F1 as1 H' F' as' ∧ RlO K mg O' H' F' as' ∧ SlO K (cMd own.length cap md) (Pt.all H1) ρ' σ' H' F' as' ∧ Rps K F' as' ys acc ∧ acc.length ≤ i ∧
      cloop g t e (ds.drop i) ρ' O' acc = .ok yf OZ, ⟨ds.length, by simp, Nat.zero_le _, cEnv own.length cap ρ, O1, F1, as1, [], Gr.refl, r1, sb, Rps.nil, Nat.le_refl _, by rw [List.drop_zero]; exact e2⟩, ?_⟩
    rintro i n ys σ' H' ⟨rfl, hi, ρ', O', F', as', acc, g', r', s', hy, hl, ec⟩
    by_cases hlt : i < ds.length
    · obtain ⟨go, yl⟩ := hJ.turn i _ H' F' as' g' ⟨O', r'⟩ (List.getElem?_eq_getElem hlt)
      refine .inr ⟨go, ?_, fun ys σ2 H2 => ∃ ρ2 O3 F2 as2 acc2, Gr H1 F1 as1 H2 F2 as2 ∧ RlO K mg O3 H2 F2 as2 ∧ SlO K (cMd own.length cap md) (Pt.all H1) ρ2 σ2 H2 F2 as2 ∧ Rps K F2 as2 ys acc2 ∧ acc2.length ≤ i + 1 ∧
        cloop g t e (ds.drop (i + 1)) ρ2 O3 acc2 = .ok yf OZ, fun ys2 σ2 H2 h2 => ⟨ds.length - (i + 1), by omega, rfl, hlt, h2⟩, fun x H3 y => ?_⟩
      · rw [hy.length]
        have := size6 hz
        omega
      obtain ⟨F3, g3, r3, hx⟩ := yl x H3 y
      have r3' := r3 O' r'
      have g13 := g'.trans g3
      rw [List.drop_eq_getElem_cons hlt] at ec
      unfold cloop at ec
      cases eg : g ds[i] ρ' with
      | none => rw [eg] at ec; cases ec
      | some ρ1 =>
        rw [eg] at ec
        dsimp only at ec
        refine ⟨_, ρ', O', F3, as', ds[i], ρ1, r3', s'.step g3, hx, eg, fun σ4 s4 => ?_⟩
        cases et : t ρ1 O' with
        | ex _ _ => rw [et] at ec; cases ec
        | no => rw [et] at ec; cases ec
        | ok c O4 =>
          rw [et] at ec
          refine ⟨_, ρ1, O', F3, as', c, O4, r3', s4, et, fun H5 F5 as5 g5 r5 => ?_⟩
          cases c with
          | false =>
            rw [if_neg Bool.false_ne_true]
            exact ⟨ρ1, O4, F5, as5, acc, g13.trans g5, r5, s4.step g5, (hy.gr g3).gr g5, by omega, ec⟩
          | true =>
            rw [if_pos rfl]
            dsimp only at ec
            cases em : e ρ1 O4 with
            | ex _ _ => rw [em] at ec; cases ec
            | no => rw [em] at ec; cases ec
            | ok yd O6 =>
              rw [em] at ec
              refine ⟨_, ρ1, O4, F5, as5, yd, O6, r5, s4.step g5, em, fun vy H7 F7 as7 g7 r7 hvy => ?_⟩
              exact ⟨ρ1, O6, F7, as7, acc ++ [yd], (g13.trans g5).trans g7, r7, (s4.step g5).step g7, (((hy.gr g3).gr g5).gr g7).snoc hvy, by rw [List.length_append]; show acc.length + 1 ≤ i + 1; omega, ec⟩
    · have hi' : i = ds.length := by omega
      subst hi'
      rw [List.drop_length] at ec
      cases ec
      refine .inl ⟨hJ.stop H' F' as' g' ⟨_, r'⟩, ?_, fun p hp => ?_⟩
      · rw [hy.length]
        exact Nat.le_trans hl (size6 hz)
      · have hF : F' p = none := by
          cases q : F' p with
          | none => rfl
          | some o => rw [r'.fh p o q] at hp; cases hp
        exact k _ _ F' as' ((g1.trans g').trans (Gr.lay hp)) (r'.lay hp) (.inr ⟨p, ys, yf, rfl, rfl, upd_same, hF, fun z => r'.all z hp, (g1.trans g').dm p hp, hy⟩)
  · cases eq
variable {tg iter elt : Expr} {ifs : List Expr} {scope : Scope} {pos : Pos} {mi : M (List D)} {g : MG} {t : M Bool} {e : M D}
theorem oe_comp (sc0 : Scope) (N0 own : List Str) (cap : List Nat) (hc : X.calm = true) (hi : VIc X md P tg iter mi)
    (hg : ∀ C s H ex P, VG (cxComp X scope C (compN N0 own cap) s H ex) (cMd own.length cap md) P tg g) (ht : ∀ C s H ex P, VIf (cxComp X scope C (compN N0 own cap) s H ex) (cMd own.length cap md) P ifs t)
    (he : ∀ C s H ex P, VE (cxComp X scope C (compN N0 own cap) s H ex) (cMd own.length cap md) P elt e)
    (hcap : ∀ j ∈ cap, j < md.length := by decide) (hsc : X.env.scope = sc0 := by rfl) (hN0 : X.N = N0 := by rfl) (ok : compOk sc0 N0 scope own cap = true := by decide +kernel) (hs : ∀ x, foldedSetIterable iter X.env x = pure x := by intro _; rfl) :
    OE X md P (.ListComp elt [⟨tg, iter, ifs, 0⟩] scope pos) (mComp mi own.length cap g t e) :=
  (pe_comp sc0 N0 own cap hc hi (fun C s H ex => xmg (hg C s H ex)) (fun C s H ex => xmt (ht C s H ex)) (fun C s H ex => xm (he C s H ex)) hsc hN0 ok hs).imp fun _ _ _ q => comp_go hcap q
end
def vSp (K : Frag) (mg : Str → Option Value) (pm : List Md) (R : RR) (c : List D → Store → Res D) : Sp := fun vs H Q _ =>
  ∃ ds O F as d O', RlO K mg O H F as ∧ ArgsR K H F as pm vs ds ∧ c ds O = .ok d O' ∧ ∀ v H' F' as', Gr H F as H' F' as' → RlO K mg O' H' F' as' → R (fun a => H a = none) H' F' as' v d → Q v H'
def mFun (n : Nat) (b : MS) : List D → Store → Res D := fun ds O => match b (ds.map some ++ List.replicate (n - ds.length) none) O with
  | .rt d O' => .ok d O'
  | .nx _ O' => .ok .non O'
  | .ex x O' => .ex x O'
  | _ => .no
theorem ArgsR.len {K : Frag} {H F : Hp} {as : List Addr} : ∀ {ms : List Md} {vs : List V} {ds : List D}, ArgsR K H F as ms vs ds → vs.length = ms.length ∧ ds.length = ms.length
  | [], [], [], _ => ⟨rfl, rfl⟩
  | m :: ms, v :: vs, d :: ds, h => by
    have := ArgsR.len h.2
    simp [this.1, this.2]
  | [], [], _ :: _, h => h.elim
  | [], _ :: _, [], h => h.elim
  | [], _ :: _, _ :: _, h => h.elim
  | _ :: _, [], [], h => h.elim
  | _ :: _, [], _ :: _, h => h.elim
  | _ :: _, _ :: _, [], h => h.elim
theorem ArgsR.get {K : Frag} {H F : Hp} {as : List Addr} : ∀ {ms : List Md} {vs : List V} {ds : List D} {i : Nat} {m : Md} {d : D}, ArgsR K H F as ms vs ds → ms[i]? = some m → ds[i]? = some d → ∃ v, vs[i]? = some v ∧ rA K m (fun _ => True) H F as v d
  | m :: ms, v :: vs, d :: ds, 0, m', d', h, e1, e2 => by
    simp at e1 e2
    subst e1 e2
    exact ⟨v, rfl, h.1⟩
  | m :: ms, v :: vs, d :: ds, i + 1, m', d', h, e1, e2 => by
    obtain ⟨v', h1, h2⟩ := ArgsR.get (i := i) (m := m') (d := d') h.2 (by simpa using e1) (by simpa using e2)
    exact ⟨v', by simpa using h1, h2⟩
  | [], [], [], _, _, _, _, e1, _ => by simp at e1
  | [], [], _ :: _, _, _, _, h, _, _ => h.elim
  | [], _ :: _, [], _, _, _, h, _, _ => h.elim
  | [], _ :: _, _ :: _, _, _, _, h, _, _ => h.elim
  | _ :: _, [], [], _, _, _, h, _, _ => h.elim
  | _ :: _, [], _ :: _, _, _, _, h, _, _ => h.elim
  | _ :: _, _ :: _, [], _, _, _, h, _, _ => h.elim
theorem start_slots {K : Frag} {H F : Hp} {as : List Addr} {N : List Str} {pm lm : List Md} {vs : List V} {ds : List D} (h : ArgsR K H F as pm vs ds) (hl : (pm ++ lm).length = N.length) (hp : ∀ m ∈ pm, m ≠ .o) :
    SlO K (pm ++ lm) (Pt.all H) (ds.map some ++ List.replicate (N.length - ds.length) none) (start N vs) H F as := by
  obtain ⟨h1, h2⟩ := h.len
  rw [List.length_append] at hl
  have vsl : vs.length ≤ N.length := by omega
  have no : ∀ i a, (ds.map some ++ List.replicate (N.length - ds.length) none)[i]? = some (some a) → i < ds.length := fun i a e => by
    by_cases hi : i < ds.length
    · exact hi
    · rw [List.getElem?_append_right (by simpa using hi), List.getElem?_replicate] at e
      split at e <;> cases e
  refine ⟨by unfold start; simp; omega, by simp; omega, fun a z => z, fun i m d e1 e2 => ?_, fun i j a es fs e1 e2 e3 => ?_, fun _ z => nomatch z⟩
  · have hi := no i d e2
    rw [List.getElem?_append_left (by simpa using hi), List.getElem?_map] at e2
    rw [List.getElem?_append_left (by omega)] at e1
    cases q : ds[i]? with
    | none => rw [q] at e2; cases e2
    | some d' =>
      rw [q] at e2
      cases e2
      obtain ⟨v, h3, h4⟩ := h.get e1 q
      refine ⟨v, ?_, ?_⟩
      · unfold start
        rw [List.getElem?_append_left (by simp; omega), List.getElem?_map, h3]
        rfl
      · cases m with
        | v => exact h4
        | s =>
          rcases h4 with h4 | ⟨a, xs, es, z1, z2, z3, z4, z5⟩
          · exact .inl h4
          · exact .inr ⟨a, xs, es, z1, z2, z3, z4, (show H a ≠ none by rw [z3]; exact fun z => nomatch z), z5⟩
        | o => exact absurd rfl (hp .o (List.mem_of_getElem? e1))
  · have hi := no i _ e3
    rw [List.getElem?_append_left (by omega)] at e1
    exact absurd rfl (hp .o (List.mem_of_getElem? e1))
section
variable {Pr : Program} {w : World} {K : Frag} {mg : Str → Option Value} {base : Heap}
theorem vdef {x : Str} {st : Stmt} {N ps : List Str} {k : Nat} (Df : Def K mg x st) (S : FnScope N ps (defScope st))
    (hb : ∀ (kV doc pm : Value) (an : Option Addr) (cdv ct : Value) (us : List Value), us.length = ps.length → bindArgs (PySem.W.fnOf x x (defArgs st) (defBody st) (defScope st) .none kV doc pm an cdv ct) ⟨us, []⟩ = pure (ps.zip us))
    (pm lm : List Md) {R : RR} {b : MS} (hR : RRok R) (hR0 : ∀ N H F as, R N H F as .non .non) (hpl : pm.length = ps.length := by rfl) (hl : (pm ++ lm).length = N.length := by rfl) (hp : ∀ m ∈ pm, m ≠ .o := by decide)
    (body : ∀ (f : Addr) (cdv : Value) (A : Around) (outer : List Env) (s : Shared) (H : Hp) (E : XK), Room k (A.deeper (envOfC x (defScope st) s.heap.objs.size f cdv)) → ∀ P, VSs ((cxOf CX0 Pr w K mg base N x (defScope st) f cdv A outer s H E).nox) (pm ++ lm) P R (defBody st) b) :
    Can Pr w K mg base x ps (k + 1) (vSp K mg pm R (mFun N.length b)) := by
  refine Df.can (k := k) S hb (fun vs H Q E h => ?_) (fun f cdv A outer s H vs Q E hr h => ?_)
  · obtain ⟨ds, O, F, as, d, O', r, a, _⟩ := h
    rw [a.len.1, hpl]
  · obtain ⟨ds, O, F, as, d, O', r, a, e, q⟩ := h
    refine ⟨_, body f cdv A outer s H E hr (Pt.all H), ?_⟩
    refine ⟨_, O, F, as, r, start_slots a hl hp, ?_⟩
    unfold mFun at e
    cases eb : b (ds.map some ++ List.replicate (N.length - ds.length) none) O with
    | rt d' O2 =>
      rw [eb] at e
      cases e
      exact fun v H' F' as' g r' hv => q v H' F' as' g.gr r' (hR _ _ _ _ _ _ _ (fun c hc => Classical.not_not.mp hc) hv)
    | nx ρ O2 =>
      rw [eb] at e
      cases e
      exact fun σ' H' F' as' g r' _ => q _ H' F' as' g.gr r' (hR0 _ _ _ _)
    | bk _ _ => rw [eb] at e; cases e
    | ct _ _ => rw [eb] at e; cases e
    | ex _ _ => rw [eb] at e; cases e
    | no => rw [eb] at e; cases e
end
section
variable {X : Cx} {md : List Md} {P : Pt} {R : RR} {k : Nat} {x : Str} {ps : List Str} {p pos : Pos} {e : Expr} {es : List Expr} {pm : List Md} {c : List D → Store → Res D} {ma : M (List D)}
def mCall (c : List D → Store → Res D) (ma : M (List D)) : M D := fun ρ O => (ma ρ O).bind fun ds O1 => c ds O1
theorem call_go {K : Frag} {mg : Str → Option Value} (hR : RRok R) {E : XK} {σ : St} {H : Hp} {Q : VK} (q : tM K mg md P R (mCall c ma) σ H Q) : tCall (vSp K mg pm R c) [] E (tMA K mg md P pm ma) σ H Q := by
  obtain ⟨ρ, O, F, as, d, O', r, s, e, k⟩ := q
  obtain ⟨ds, O1, e1, e⟩ := Res.bind_ok e
  refine ⟨ρ, _, F, as, _, _, r, s, e1, fun vs H1 F1 as1 g1 r1 hv => ?_⟩
  dsimp only
  rw [List.append_nil]
  exact ⟨ds, O1, F1, as1, d, O', r1, hv, e, fun v H' F' as' g' r' hw => k v H' F' as' (g1.trans g') r' (hR _ _ _ _ _ _ _ (fun a ha => g1.dm a ha) hw)⟩
theorem xe_call (hR : RRok R) (C : Can X.prog X.w X.K X.mg X.base x ps k (vSp X.K X.mg pm R c)) (hr : Room k X.A) (ha : AE X md P pm (e :: es) ma) (hg : Gl X x := by rfl) (hdb : (x == ("__debug__" : Str)) = false := by decide)
    (he : starEach (e :: es) X.env = (false, eval e X.env) :: starEach es X.env := by exact starC rfl) (hpl : (backTo pos (starEach es X.env)).any (·.1) = false := by exact starAny rfl) : PE X (.Call (.Name x p) (e :: es) [] pos) (tM X.K X.mg md P R (mCall c ma)) :=
  (pe_can C hr ha hg hdb he hpl).imp fun _ _ _ q => call_go hR q
theorem xe_call0 (hR : RRok R) (C : Can X.prog X.w X.K X.mg X.base x ps k (vSp X.K X.mg [] R c)) (hr : Room k X.A) (hg : Gl X x := by rfl) (hdb : (x == ("__debug__" : Str)) = false := by decide) : PE X (.Call (.Name x p) [] [] pos) (tM X.K X.mg md P R (mCall c maNil)) :=
  (pe_can0 C hr hg hdb).imp fun σ H Q q => by
    have := call_go (pm := []) (E := E0) hR q
    obtain ⟨ρ, O, F, as, d, O', r, s, e1, k⟩ := this
    cases e1
    exact k [] H F as Gr.refl r trivial
end
end L2
namespace L2
open PySem PySem.Spec PyProof.Rows
section
variable {K : Frag} {mg : Str → Option Value} {H F : Hp} {as : List Addr} {O : Store} {Q : VK} {d : D} {p : Addr} {xs : List V} {ds : List D}
theorem k_val {v : V} (r : RlO K mg O H F as) (k : ∀ v' H' F', Gr H F as H' F' as → RlO K mg O H' F' as → Ow K (fun a => H a = none) H' F' as v' d → Q v' H') (hn : notL d = true) (hv : Rp K F as v d) : Q v H := k v H F Gr.refl r (.inl ⟨hn, hv⟩)
theorem RlO.frF (r : RlO K mg O H F as) (hp : H p = none) : F p = none := by
  cases q : F p with
  | none => rfl
  | some o => rw [r.fh p o q] at hp; cases hp
theorem k_lst (r : RlO K mg O H F as) (k : ∀ v' H' F', Gr H F as H' F' as → RlO K mg O H' F' as → Ow K (fun a => H a = none) H' F' as v' (.lst ds) → Q v' H') (hp : H p = none) (hs : Rps K F as xs ds) : Q (.ref p) (upd H p (.lst xs)) :=
  k _ _ F (Gr.lay hp) (r.lay hp) (.inr ⟨p, xs, ds, rfl, rfl, upd_same, r.frF hp, fun z => r.all z hp, hp, hs⟩)
theorem k_tup (r : RlO K mg O H F as) (k : ∀ v' H' F', Gr H F as H' F' as → RlO K mg O H' F' as → Ow K (fun a => H a = none) H' F' as v' (.tup ds) → Q v' H') (hp : H p = none) (hs : Rps K F as xs ds) : Q (.ref p) (upd H p (.tup xs)) := by
  have hF := r.frF hp
  have ff : Same F (upd F p (.tup xs)) := fun b u q => by rw [upd_ne (ne_of_none q hF)]; exact q
  exact k _ _ (upd F p (.tup xs)) ((Gr.lay hp).frz hp hF) ((r.lay hp).frz upd_same hF (fun z => r.all z hp) rfl) (.inl ⟨rfl, Rp.mkT (.inl upd_same) (Rps.mono ff (fun _ _ z => z) _ hs)⟩)
end
section
variable {X : Cx}
def rCatR (K : Frag) : R2 := fun x y H Q => ∃ l b xs zs, x = .ref l ∧ y = .ref b ∧ RdK K H l xs ∧ RdK K H b zs ∧ xs.length + zs.length ≤ sizeLine ∧ ∀ p, H p = none → Q (.ref p) (upd H p (.lst (xs ++ zs)))
theorem op_catR : OpR X (binaryOp .Add) (rCatR X.K) := by
  intro pins s σ H x y v u Q I rx ry h
  obtain ⟨l, b, xs, zs, rfl, rfl, hH, hB, hz, q⟩ := h
  cases rx
  cases ry
  obtain ⟨z, its, n, r, e⟩ := hH.ok I
  obtain ⟨z2, its2, n2, r2, e2⟩ := hB.ok I
  have hl := r.length
  have hl2 := r2.length
  refine PySem.P.add_list e e2 ?_ (by rw [List.size_toArray, List.size_toArray]; omega)
  have ea : its.toArray ++ its2.toArray = (its ++ its2).toArray := by simp
  rw [ea]
  exact ⟨.ref _, _, I.lnew (t' := s.toks) (r.append r2) (by rw [List.length_append]; omega), rfl, q _ I.fresh⟩
def rRepR (K : Frag) : R2 := fun x y H Q => ∃ l k xs, x = .ref l ∧ y = .int k ∧ RdK K H l xs ∧ -(2 ^ 63) ≤ k ∧ k < 2 ^ 63 ∧ xs.length * k.toNat ≤ sizeLine ∧
  ∀ p, H p = none → Q (.ref p) (upd H p (.lst (List.replicate k.toNat xs).flatten))
theorem op_repR : OpR X (binaryOp .Mult) (rRepR X.K) := by
  intro pins s σ H x y v u Q I rx ry h
  obtain ⟨l, k, xs, rfl, rfl, hH, h1, h2, hz, q⟩ := h
  cases rx
  obtain ⟨t, rfl⟩ := ry
  obtain ⟨z, its, n, r, e⟩ := hH.ok I
  have hl := r.length
  have hlen : its.toArray.size * k.toNat ≤ sizeLine := by rw [List.size_toArray, ← hl]; exact hz
  have hcap : ¬ its.toArray.size * k.toNat > (2 ^ 63 - 1) / 8 := by
    have : (sizeLine : Nat) ≤ (2 ^ 63 - 1) / 8 := by decide
    omega
  have hfit : ¬ (!Builtin.List.listFitsIndex k) = true := by
    rw [fitsIndex_both h1 h2]
    exact Bool.false_ne_true
  have hlong : ¬ Builtin.List.listTooLong (its.toArray.size * k.toNat) = true := by
    rw [notLongL hlen]
    exact Bool.false_ne_true
  have hnew : List.foldl (fun x1 x2 => x1 ++ x2) #[] (List.replicate (if its.toArray.isEmpty = true then 0 else k.toNat) its.toArray) = (List.replicate k.toNat its).flatten.toArray := by
    have f0 : ∀ m : Nat, List.foldl (fun x1 x2 => x1 ++ x2) #[] (List.replicate m its.toArray) = (List.replicate m its).flatten.toArray := fun m => by
      have := foldl_rep its m []
      rw [List.nil_append] at this
      exact this
    rw [f0]
    cases its with
    | nil => simp
    | cons a r' => rw [if_neg (by simp)]
  refine wpAny_binaryOp_repeat_ref (T := "list") (U := "int") (by decide) ⟨_, e, rfl⟩ (fun s' => typeIs_int s' k t) noFill_list_mul F.fills_int_mul F.slot_int_rmul repeat_list F.slot_int_index.lookup
    (call_meets F.slot_int_rmul (typeIs_int s k t) F.entry_int_rmul (F.args_int_rmul_2 _ _) (int___rmul___int_list k t l its.toArray n)
      ⟨e, rfl, ⟨_, e, rfl⟩, call_meets F.slot_list_mul ⟨_, e, rfl⟩ F.entry_list_mul (F.args_list_mul_2 _ _) (AutoListH.list___mul___list_int_3 l its.toArray n k t hfit hcap hlong) ⟨e, ?_⟩⟩)
  rw [hnew]
  exact ⟨.ref _, _, I.lnew (t' := s.toks) (r.rep k.toNat) (by rw [len_rep, Nat.mul_comm]; exact hz), rfl, q _ I.fresh⟩
def gAdd : D → D → Option D
  | .int i, .int j => some (.int (i + j))
  | .int i, .bl k => some (.int (i + b2i k))
  | .str a, .str b => if a.length + b.length ≤ 1000000 then some (.str (a ++ b)) else none
  | .lst a, .lst b => if a.length + b.length ≤ 1000000 then some (.lst (a ++ b)) else none
  | .tup a, .tup b => if a.length + b.length ≤ 1000000 ∧ a ≠ [] then some (.tup (a ++ b)) else none
  | _, _ => none
instance (a : List D) : Decidable (a ≠ []) := match a with
  | [] => isFalse fun h => h rfl
  | _ :: _ => isTrue fun h => nomatch h
theorem od_add : OpD X (binaryOp .Add) gAdd := by
  intro pins s σ H x y v u Q I rx ry h
  obtain ⟨O, F, as, dx, dy, d, r, hx, hy, e, k⟩ := h
  cases dx with
  | int i =>
    cases (hx.rp rfl).unI
    cases dy with
    | int j =>
      cases (hy.rp rfl).unI
      cases e
      exact op_add pins s σ H _ _ v u Q I rx ry ⟨i, j, rfl, rfl, k_val r k rfl Rp.int⟩
    | bl j =>
      cases (hy.rp rfl).unB
      cases e
      exact op_add_ib pins s σ H _ _ v u Q I rx ry ⟨i, j, rfl, rfl, k_val r k rfl Rp.int⟩
    | _ => cases e
  | str a =>
    cases (hx.rp rfl).unS
    cases dy with
    | str b =>
      cases (hy.rp rfl).unS
      simp only [gAdd] at e
      split at e
      · rename_i hz
        cases e
        refine op_add_str pins s σ H _ _ v u Q I rx ry ⟨S a, S b, rfl, rfl, by rw [S_length, S_length]; exact size6 hz, ?_⟩
        rw [S_append]
        exact k_val r k rfl Rp.str
      · cases e
    | _ => cases e
  | lst a =>
    obtain ⟨p, xs, rfl, h1, h2⟩ := hx.list r.fh
    cases dy with
    | lst b =>
      obtain ⟨p', ys, rfl, h3, h4⟩ := hy.list r.fh
      simp only [gAdd] at e
      split at e
      · rename_i hz
        cases e
        exact op_catR pins s σ H _ _ v u Q I rx ry ⟨p, p', xs, ys, rfl, rfl, h1, h3, by rw [h2.length, h4.length]; exact size6 hz, fun q hq => k_lst r k hq (Rps.append h4 h2)⟩
      · cases e
    | _ => cases e
  | tup a =>
    obtain ⟨p, xs, rfl, h1, h2⟩ := (hx.rp rfl).unT
    cases dy with
    | tup b =>
      obtain ⟨p', ys, rfl, h3, h4⟩ := (hy.rp rfl).unT
      simp only [gAdd] at e
      split at e
      · rename_i hz
        cases e
        have hxs : xs ≠ [] := fun z => hz.2 (List.eq_nil_of_length_eq_zero (by rw [← h2.length, z]; rfl))
        refine op_catT pins s σ H _ _ v u Q I rx ry ⟨p, p', xs, ys, rfl, rfl, Same.seqT r.fh h1, Same.seqT r.fh h3, hxs, by rw [h2.length, h4.length]; exact size6 hz.1, fun z => ?_, fun _ q hq => k_tup r k hq (Rps.append h4 h2)⟩
        have hb : b = [] := List.eq_nil_of_length_eq_zero (by rw [← h4.length, z]; rfl)
        subst hb
        rw [List.append_nil] at k
        exact k_val r k rfl (hx.rp rfl)
      · cases e
    | _ => cases e
  | _ => cases e
def gI (C : Int → Int → Bool) (f : Int → Int → Int) : D → D → Option D
  | .int i, .int j => if C i j = true then some (.int (f i j)) else none
  | _, _ => none
theorem od_I {f : Value → Value → Sem Value} {Cp : Int → Int → Prop} {g : Int → Int → Int} {C : Int → Int → Bool} (h : OpR X f (rI Cp fun i j => .int (g i j))) (hc : ∀ i j, C i j = true → Cp i j) : OpD X f (gI C g) := by
  intro pins s σ H x y v u Q I rx ry h'
  obtain ⟨O, F, as, dx, dy, d, r, hx, hy, e, k⟩ := h'
  cases dx with
  | int i =>
    cases (hx.rp rfl).unI
    cases dy with
    | int j =>
      cases (hy.rp rfl).unI
      simp only [gI] at e
      split at e
      · rename_i hC
        cases e
        exact h pins s σ H _ _ v u Q I rx ry ⟨i, j, rfl, rfl, hc i j hC, k_val r k rfl Rp.int⟩
      · cases e
    | _ => cases e
  | _ => cases e
def gMinus : D → D → Option D := gI (fun _ _ => true) fun i j => i - j
def small64 (i : Int) : Bool := decide (-(2 ^ 64) < i) && decide (i < 2 ^ 64)
theorem small64_iff {i : Int} (h : small64 i = true) : -(2 ^ 64) < i ∧ i < 2 ^ 64 := by
  unfold small64 at h
  rw [Bool.and_eq_true, decide_eq_true_eq, decide_eq_true_eq] at h
  exact h
def gMul : D → D → Option D
  | .int i, .int j => if (small64 i || small64 j) = true then some (.int (i * j)) else none
  | .str l, .int n => if -1000000 < n ∧ n < 1000000 ∧ l.length * n.toNat ≤ 16777216 then some (.str (List.replicate n.toNat l).flatten) else none
  | .lst l, .int n => if -1000000 < n ∧ n < 1000000 ∧ l.length * n.toNat ≤ 1000000 then some (.lst (List.replicate n.toNat l).flatten) else none
  | _, _ => none
theorem od_mul : OpD X (binaryOp .Mult) gMul := by
  intro pins s σ H x y v u Q I rx ry h
  obtain ⟨O, F, as, dx, dy, d, r, hx, hy, e, k⟩ := h
  cases dx with
  | int i =>
    cases (hx.rp rfl).unI
    cases dy with
    | int j =>
      cases (hy.rp rfl).unI
      simp only [gMul] at e
      split at e
      · rename_i hz
        cases e
        refine op_mul pins s σ H _ _ v u Q I rx ry ⟨i, j, rfl, rfl, ?_, k_val r k rfl Rp.int⟩
        rw [Bool.or_eq_true] at hz
        rcases hz with z | z
        · exact .inl (small64_iff z)
        · exact .inr (small64_iff z)
      · cases e
    | _ => cases e
  | str l =>
    cases (hx.rp rfl).unS
    cases dy with
    | int n =>
      cases (hy.rp rfl).unI
      simp only [gMul] at e
      split at e
      · rename_i hz
        cases e
        exact op_mul_str pins s σ H _ _ v u Q I rx ry ⟨l, n, rfl, rfl, hz.1, hz.2.1, hz.2.2, k_val r k rfl Rp.str⟩
      · cases e
    | _ => cases e
  | lst l =>
    obtain ⟨p, xs, rfl, h1, h2⟩ := hx.list r.fh
    cases dy with
    | int n =>
      cases (hy.rp rfl).unI
      simp only [gMul] at e
      split at e
      · rename_i hz
        cases e
        exact op_repR pins s σ H _ _ v u Q I rx ry ⟨p, n, xs, rfl, rfl, h1, by omega, by omega, by rw [h2.length]; exact size6 hz.2.2, fun q hq => k_lst r k hq (h2.rep _)⟩
      · cases e
    | _ => cases e
  | _ => cases e
def gMod : D → D → Option D := gI (fun _ j => decide (0 < j)) fun i j => i % j
theorem od_mod : OpD X (binaryOp .Mod) gMod := od_I op_mod fun _ _ h => of_decide_eq_true h
def gFdiv : D → D → Option D := gI (fun _ j => decide (0 < j) && decide (j < 1073741824)) fun i j => i / j
theorem od_fdiv : OpD X (binaryOp .FloorDiv) gFdiv := od_I op_fdiv fun i j h => by
  rw [Bool.and_eq_true, decide_eq_true_eq, decide_eq_true_eq] at h
  exact h
def gPow : D → D → Option D := gI (fun i j => decide (0 ≤ j) && (decide (j ≤ 1000000) && small64 i)) fun i j => i ^ j.toNat
theorem od_pow : OpD X (binaryOp .Pow) gPow := od_I op_pow fun i j h => by
  rw [Bool.and_eq_true, Bool.and_eq_true, decide_eq_true_eq, decide_eq_true_eq] at h
  have := small64_iff h.2.2
  exact ⟨h.1, h.2.1, by omega⟩
def mUn (g : D → Option D) (m : M D) : M D := fun ρ O => (m ρ O).bind fun d O1 => match g (deref O1 d) with
  | some y => .ok y O1
  | none => .no
def gCI (f : Int → Int → Bool) : D → D → Option D
  | .int i, .int j => some (.bl (f i j))
  | _, _ => none
theorem od_CI {f : Value → Value → Sem Value} {g : Int → Int → Bool} (h : OpR X f (rI0 fun i j => .bl (g i j))) : OpD X f (gCI g) := by
  intro pins s σ H x y v u Q I rx ry h'
  obtain ⟨O, F, as, dx, dy, d, r, hx, hy, e, k⟩ := h'
  cases dx with
  | int i =>
    cases (hx.rp rfl).unI
    cases dy with
    | int j =>
      cases (hy.rp rfl).unI
      cases e
      exact h pins s σ H _ _ v u Q I rx ry ⟨i, j, rfl, rfl, k_val r k rfl Rp.bl⟩
    | _ => cases e
  | _ => cases e
def gLt : D → D → Option D := gCI fun i j => decide (i < j)
def gGt : D → D → Option D := gCI fun i j => decide (j < i)
def gGe : D → D → Option D := gCI fun i j => decide (j ≤ i)
def gLe : D → D → Option D
  | .int i, .int j => some (.bl (decide (i ≤ j)))
  | .str a, .str b => some (.bl (!decide (b < a)))
  | _, _ => none
theorem od_le : OpD X (compareOp .LtE) gLe := by
  intro pins s σ H x y v u Q I rx ry h'
  obtain ⟨O, F, as, dx, dy, d, r, hx, hy, e, k⟩ := h'
  cases dx with
  | int i =>
    cases (hx.rp rfl).unI
    cases dy with
    | int j =>
      cases (hy.rp rfl).unI
      cases e
      exact op_le pins s σ H _ _ v u Q I rx ry ⟨i, j, rfl, rfl, k_val r k rfl Rp.bl⟩
    | _ => cases e
  | str a =>
    cases (hx.rp rfl).unS
    cases dy with
    | str b =>
      cases (hy.rp rfl).unS
      cases e
      refine op_le_str pins s σ H _ _ v u Q I rx ry ⟨S a, S b, rfl, rfl, ?_⟩
      rw [S_cps, S_cps]
      exact k_val r k rfl Rp.bl
    | _ => cases e
  | _ => cases e
theorem od_gt : OpD X (compareOp .Gt) gGt := od_CI op_gt
theorem od_ge : OpD X (compareOp .GtE) gGe := od_CI op_ge
mutual
def toP : D → PyData
  | .non => .none
  | .bl b => .bool b
  | .int i => .int i
  | .str l => .str (S l)
  | .lst ds => .list (toPs ds)
  | .tup ds => .tuple (toPs ds)
  | .dic _ _ => .none
  | .ob _ => .none
def toPs : List D → List PyData
  | [] => []
  | d :: ds => toP d :: toPs ds
end
mutual
def plainD : D → Bool
  | .lst ds => plainDs ds
  | .tup ds => plainDs ds
  | .dic _ _ => false
  | .ob _ => false
  | _ => true
def plainDs : List D → Bool
  | [] => true
  | d :: ds => plainD d && plainDs ds
end
section
variable {K : Frag} {F : Hp} {as : List Addr}
mutual
theorem Rp.rep : ∀ (d : D) {v : V}, plainD d = true → Rp K F as v d → Rep K F v (toP d)
  | .non, v, _, h => by rw [toP, Rep]; exact h.unN
  | .bl b, v, _, h => by rw [toP, Rep]; exact h.unB
  | .int i, v, _, h => by rw [toP, Rep]; exact h.unI
  | .str x, v, _, h => by rw [toP, Rep]; exact h.unS
  | .lst ds, v, hp, h => by
    obtain ⟨a, xs, h1, h2, h3⟩ := h.unL
    rw [toP, Rep]
    rw [plainD] at hp
    exact ⟨a, xs, h1, h2.sq, Rps.rep' ds hp h3⟩
  | .tup ds, v, hp, h => by
    obtain ⟨a, xs, h1, h2, h3⟩ := h.unT
    rw [toP, Rep]
    rw [plainD] at hp
    exact ⟨a, xs, h1, h2, Rps.rep' ds hp h3⟩
  | .dic _ _, v, hp, h => by rw [plainD] at hp; cases hp
  | .ob _, v, hp, h => by rw [plainD] at hp; cases hp
theorem Rps.rep' : ∀ (ds : List D) {xs : List V}, plainDs ds = true → Rps K F as xs ds → Reps K F xs (toPs ds)
  | [], xs, _, h => by rw [h.un0, toPs]; exact Reps.nil
  | d :: ds, xs, hp, h => by
    obtain ⟨x, r, rfl, h2, h3⟩ := h.un
    rw [plainDs, Bool.and_eq_true] at hp
    rw [toPs]
    exact Reps.cons (Rp.rep d hp.1 h2) (Rps.rep' ds hp.2 h3)
end
theorem Lk.rep {H : Hp} {d : D} {v : V} (h : Lk K H F as v d) (fh : Same F H) (hp : plainD d = true) : Rep K H v (toP d) := by
  rcases h with h | ⟨a, xs, ds, rfl, rfl, h1, h2⟩
  · exact Rep.mono fh _ (Rp.rep d hp h)
  · rw [plainD] at hp
    rw [toP, Rep]
    exact ⟨a, xs, rfl, .inl (.inl h1), Reps.mono fh _ (Rps.rep' ds hp h2)⟩
end
def okE (d : D) : Bool := plainD d && okD (toP d)
def eqDD (a b : D) : Bool := PyData.eqv (toP a) (toP b)
def gEq : D → D → Option D
  | .int i, .int j => some (.bl (decide (i = j)))
  | .str a, .str b => some (.bl (decide (a = b)))
  | .bl a, .bl b => some (.bl (decide (a = b)))
  | a, b => if (okE a && okE b) = true then some (.bl (eqDD a b)) else none
def gNe : D → D → Option D
  | .int i, .int j => some (.bl (!decide (i = j)))
  | .str a, .str b => some (.bl (!decide (a = b)))
  | .bl a, .bl b => some (.bl (!decide (a = b)))
  | a, b => if (okE a && okE b) = true then some (.bl (!eqDD a b)) else none
theorem dec_S (a b : List Nat) : decide (V.str (S a) = V.str (S b)) = decide (a = b) := by
  by_cases h : a = b
  · subst h; simp
  · rw [decide_eq_false h, decide_eq_false]
    intro z
    exact h (S_inj (V.str.inj z))
theorem dec_I (a b : Int) : decide (V.int a = V.int b) = decide (a = b) := by
  by_cases h : a = b
  · subst h; simp
  · rw [decide_eq_false h, decide_eq_false]
    intro z
    exact h (V.int.inj z)
theorem dec_B (a b : Bool) : decide (V.bl a = V.bl b) = decide (a = b) := by
  cases a <;> cases b <;> rfl
theorem gEq_gen {a b d : D} (h : gEq a b = some d) : (∃ i j, a = .int i ∧ b = .int j ∧ d = .bl (decide (i = j))) ∨ (∃ i j, a = .str i ∧ b = .str j ∧ d = .bl (decide (i = j))) ∨ (∃ i j, a = .bl i ∧ b = .bl j ∧ d = .bl (decide (i = j))) ∨
    (okE a = true ∧ okE b = true ∧ d = .bl (eqDD a b)) := by
  unfold gEq at h
  split at h
  · cases h; exact .inl ⟨_, _, rfl, rfl, rfl⟩
  · cases h; exact .inr (.inl ⟨_, _, rfl, rfl, rfl⟩)
  · cases h; exact .inr (.inr (.inl ⟨_, _, rfl, rfl, rfl⟩))
  · split at h
    · rename_i hk
      rw [Bool.and_eq_true] at hk
      cases h
      exact .inr (.inr (.inr ⟨hk.1, hk.2, rfl⟩))
    · cases h
theorem gNe_gen {a b d : D} (h : gNe a b = some d) : (∃ i j, a = .int i ∧ b = .int j ∧ d = .bl (!decide (i = j))) ∨ (∃ i j, a = .str i ∧ b = .str j ∧ d = .bl (!decide (i = j))) ∨ (∃ i j, a = .bl i ∧ b = .bl j ∧ d = .bl (!decide (i = j))) ∨
    (okE a = true ∧ okE b = true ∧ d = .bl (!eqDD a b)) := by
  unfold gNe at h
  split at h
  · cases h; exact .inl ⟨_, _, rfl, rfl, rfl⟩
  · cases h; exact .inr (.inl ⟨_, _, rfl, rfl, rfl⟩)
  · cases h; exact .inr (.inr (.inl ⟨_, _, rfl, rfl, rfl⟩))
  · split at h
    · rename_i hk
      rw [Bool.and_eq_true] at hk
      cases h
      exact .inr (.inr (.inr ⟨hk.1, hk.2, rfl⟩))
    · cases h
theorem od_eq {k : Nat} (hr : Room k X.A) : OpD X (compareOp .Eq) gEq := by
  intro pins s σ H x y v u Q I rx ry h'
  obtain ⟨O, F, as, dx, dy, d, r, hx, hy, e, k⟩ := h'
  rcases gEq_gen e with ⟨i, j, rfl, rfl, rfl⟩ | ⟨i, j, rfl, rfl, rfl⟩ | ⟨i, j, rfl, rfl, rfl⟩ | ⟨h1, h2, rfl⟩
  · cases (hx.rp rfl).unI
    cases (hy.rp rfl).unI
    refine op_eq pins s σ H _ _ v u Q I rx ry ⟨rfl, ?_⟩
    rw [dec_I]
    exact k_val r k rfl Rp.bl
  · cases (hx.rp rfl).unS
    cases (hy.rp rfl).unS
    refine op_eq pins s σ H _ _ v u Q I rx ry ⟨rfl, ?_⟩
    rw [dec_S]
    exact k_val r k rfl Rp.bl
  · cases (hx.rp rfl).unB
    cases (hy.rp rfl).unB
    refine op_eq pins s σ H _ _ v u Q I rx ry ⟨rfl, ?_⟩
    rw [dec_B]
    exact k_val r k rfl Rp.bl
  · unfold okE at h1 h2
    rw [Bool.and_eq_true] at h1 h2
    exact op_eqD hr pins s σ H _ _ v u Q I rx ry ⟨toP dx, toP dy, hx.rep r.fh h1.1, hy.rep r.fh h2.1, h1.2, h2.2, k_val r k rfl Rp.bl⟩
theorem od_ne {k : Nat} (hr : Room k X.A) : OpD X (compareOp .NotEq) gNe := by
  intro pins s σ H x y v u Q I rx ry h'
  obtain ⟨O, F, as, dx, dy, d, r, hx, hy, e, k⟩ := h'
  rcases gNe_gen e with ⟨i, j, rfl, rfl, rfl⟩ | ⟨i, j, rfl, rfl, rfl⟩ | ⟨i, j, rfl, rfl, rfl⟩ | ⟨h1, h2, rfl⟩
  · cases (hx.rp rfl).unI
    cases (hy.rp rfl).unI
    refine op_ne pins s σ H _ _ v u Q I rx ry ⟨rfl, ?_⟩
    rw [dec_I]
    exact k_val r k rfl Rp.bl
  · cases (hx.rp rfl).unS
    cases (hy.rp rfl).unS
    refine op_ne pins s σ H _ _ v u Q I rx ry ⟨rfl, ?_⟩
    rw [dec_S]
    exact k_val r k rfl Rp.bl
  · cases (hx.rp rfl).unB
    cases (hy.rp rfl).unB
    refine op_ne pins s σ H _ _ v u Q I rx ry ⟨rfl, ?_⟩
    rw [dec_B]
    exact k_val r k rfl Rp.bl
  · unfold okE at h1 h2
    rw [Bool.and_eq_true] at h1 h2
    exact op_neD hr pins s σ H _ _ v u Q I rx ry ⟨toP dx, toP dy, hx.rep r.fh h1.1, hy.rep r.fh h2.1, h1.2, h2.2, k_val r k rfl Rp.bl⟩
def toV : D → V
  | .bl b => .bl b
  | .int i => .int i
  | .str l => .str (S l)
  | _ => .non
def flatD : D → Bool
  | .non => true
  | .bl _ => true
  | .int _ => true
  | .str _ => true
  | _ => false
def eqF (x y : D) : Bool := eqV (toV x) (toV y)
theorem Rp.flat {K : Frag} {F : Hp} {as : List Addr} {v : V} {d : D} (h : Rp K F as v d) (hf : flatD d = true) : v = toV d ∧ flatV v = true := by
  cases d with
  | non => rw [h.unN]; exact ⟨rfl, rfl⟩
  | bl b => rw [h.unB]; exact ⟨rfl, rfl⟩
  | int b => rw [h.unI]; exact ⟨rfl, rfl⟩
  | str b => rw [h.unS]; exact ⟨rfl, rfl⟩
  | _ => cases hf
theorem Rps.flat {K : Frag} {F : Hp} {as : List Addr} : ∀ {ds : List D} {xs : List V}, Rps K F as xs ds → ds.all flatD = true → xs = ds.map toV ∧ xs.all flatV = true
  | [], xs, h, _ => by rw [h.un0]; exact ⟨rfl, rfl⟩
  | d :: ds, xs, h, hf => by
    obtain ⟨x, r, rfl, h2, h3⟩ := h.un
    rw [List.all_cons, Bool.and_eq_true] at hf
    obtain ⟨e1, e2⟩ := h2.flat hf.1
    obtain ⟨e3, e4⟩ := Rps.flat h3 hf.2
    exact ⟨by rw [List.map_cons, ← e1, ← e3], by rw [List.all_cons, e2, e4]; rfl⟩
def gIn (neg : Bool) : D → D → Option D
  | .str [c], .str l => some (.bl (neg ^^ decide (c ∈ l)))
  | x, .lst ds => if (flatD x && ds.all flatD) = true then some (.bl (neg ^^ ds.any fun y => eqF y x)) else none
  | x, .tup ds => if (flatD x && ds.all flatD) = true then some (.bl (neg ^^ ds.any fun y => eqF y x)) else none
  | _, _ => none
theorem gIn_gen {neg : Bool} {a b d : D} (h : gIn neg a b = some d) : (∃ c l, a = .str [c] ∧ b = .str l ∧ d = .bl (neg ^^ decide (c ∈ l))) ∨ (∃ ds, (b = .lst ds ∨ b = .tup ds) ∧ flatD a = true ∧ ds.all flatD = true ∧ d = .bl (neg ^^ ds.any fun y => eqF y a)) := by
  unfold gIn at h
  split at h
  · cases h; exact .inl ⟨_, _, rfl, rfl, rfl⟩
  · split at h
    · rename_i hk
      rw [Bool.and_eq_true] at hk
      cases h
      exact .inr ⟨_, .inl rfl, hk.1, hk.2, rfl⟩
    · cases h
  · split at h
    · rename_i hk
      rw [Bool.and_eq_true] at hk
      cases h
      exact .inr ⟨_, .inr rfl, hk.1, hk.2, rfl⟩
    · cases h
  · cases h
theorem in_flat {x : D} {ds : List D} : inV (toV x) (ds.map toV) = ds.any fun y => eqF y x := by
  unfold inV
  rw [List.any_map]
  rfl
theorem seen_seq {K : Frag} {mg : Str → Option Value} {H F : Hp} {as : List Addr} {O : Store} {v : V} {b : D} {ds : List D} (r : RlO K mg O H F as) (hy : Lk K H F as v b) (hb : b = .lst ds ∨ b = .tup ds) : ∃ p xs, v = .ref p ∧ (SqL K H p xs ∨ SqT K H p xs) ∧ Rps K F as xs ds := by
  rcases hb with rfl | rfl
  · obtain ⟨p, xs, e, h1, h2⟩ := hy.list r.fh
    exact ⟨p, xs, e, .inl h1.sq, h2⟩
  · obtain ⟨p, xs, e, h1, h2⟩ := (hy.rp rfl).unT
    exact ⟨p, xs, e, .inr (Same.seqT r.fh h1), h2⟩
theorem flat_notL {d : D} (h : flatD d = true) : notL d = true := by cases d <;> first | rfl | cases h
theorem od_notin : OpD X (compareOp .NotIn) (gIn true) := by
  intro pins s σ H x y v u Q I rx ry h'
  obtain ⟨O, F, as, dx, dy, d, r, hx, hy, e, k⟩ := h'
  rcases gIn_gen e with ⟨c, l, rfl, rfl, rfl⟩ | ⟨ds, hb, h1, h2, rfl⟩
  · cases (hx.rp rfl).unS
    cases (hy.rp rfl).unS
    refine op_notin_one pins s σ H _ _ v u Q I rx ry ⟨c, l, rfl, rfl, ?_⟩
    rw [Bool.true_xor] at k
    exact k_val r k rfl Rp.bl
  · obtain ⟨p, xs, rfl, h3, h4⟩ := seen_seq r hy hb
    obtain ⟨e1, e2⟩ := (hx.rp (flat_notL h1)).flat h1
    obtain ⟨e3, e4⟩ := h4.flat h2
    refine op_notIn_seq pins s σ H _ _ v u Q I rx ry ⟨p, xs, rfl, h3, e2, e4, ?_⟩
    rw [if_pos rfl, e1, e3, in_flat]
    rw [Bool.true_xor] at k
    exact k_val r k rfl Rp.bl
def gIx : D → D → Option D
  | .lst ds, .int i => atI ds i
  | .tup ds, .int i => atI ds i
  | .str l, .int i => if l.length ≤ 1000000 then (atI l i).map fun c => .str [c] else none
  | _, _ => none
theorem Rps.atI {K : Frag} {F : Hp} {as : List Addr} {xs : List V} {ds : List D} {i : Int} {d : D} (h : Rps K F as xs ds) (e : atI ds i = some d) : ∃ v, L2.atI xs i = some v ∧ Rp K F as v d := by
  unfold L2.atI at e ⊢
  rw [h.length]
  cases q : ixN ds.length i with
  | none => rw [q] at e; cases e
  | some j =>
    rw [q] at e
    exact h.get' e
def rDv (K : Frag) (mg : Str → Option Value) (g : D → D → Option D) : R2 := fun x y H Q => ∃ O F as dx dy d, RlO K mg O H F as ∧ Lk K H F as x dx ∧ Lk K H F as y dy ∧ g dx dy = some d ∧ ∀ v', Rp K F as v' d → Q v' H
theorem ix_D : IxR X (rDv X.K X.mg gIx) := by
  intro value slice pins s σ H x y v u Q I rx ry h' hsb
  obtain ⟨O, F, as, dx, dy, d, r, hx, hy, e, k⟩ := h'
  cases dx with
  | lst ds =>
    obtain ⟨p, xs, rfl, h1, h2⟩ := hx.list r.fh
    cases dy with
    | int i =>
      cases (hy.rp rfl).unI
      obtain ⟨z, e1, e2⟩ := h2.atI e
      exact ix_list value slice pins s σ H _ _ v u Q I rx ry ⟨p, xs, i, z, rfl, rfl, h1.sq, e1, k z e2⟩ hsb
    | _ => cases e
  | tup ds =>
    obtain ⟨p, xs, rfl, h1, h2⟩ := (hx.rp rfl).unT
    cases dy with
    | int i =>
      cases (hy.rp rfl).unI
      obtain ⟨z, e1, e2⟩ := h2.atI e
      exact ix_tup value slice pins s σ H _ _ v u Q I rx ry ⟨p, xs, i, z, rfl, rfl, Same.seqT r.fh h1, e1, k z e2⟩ hsb
    | _ => cases e
  | str l =>
    cases (hx.rp rfl).unS
    cases dy with
    | int i =>
      cases (hy.rp rfl).unI
      simp only [gIx] at e
      split at e
      · rename_i hz
        cases q : L2.atI l i with
        | none => rw [q] at e; cases e
        | some c =>
          rw [q] at e
          cases e
          exact ix_str value slice pins s σ H _ _ v u Q I rx ry ⟨S l, i, c, rfl, rfl, by rw [S_length]; exact size6 hz, by rw [S_cps]; exact q, k _ Rp.str⟩ hsb
      · cases e
    | _ => cases e
  | _ => cases e
theorem ve_ix {md : List Md} {P : Pt} {a b : Expr} {pos : Pos} {ma mb : M D} (ha : SE X md P a ma) (hb : SE X md P b mb) (hs : PlainIx b := by intro _ _; rfl) : VE X md P (.Subscript a b pos) (mBin gIx ma mb) := (pe_ix ix_D ha hb hs).imp fun σ H Q h => by
  obtain ⟨ρ, O, F, as, d, O', r, sl, e, k⟩ := h
  obtain ⟨x, O1, e1, e⟩ := Res.bind_ok e
  obtain ⟨y, O2, e2, e⟩ := Res.bind_ok e
  split at e
  · rename_i d' hg
    cases e
    refine ⟨ρ, _, F, as, _, _, r, sl, e1, fun v H1 F1 as1 g1 r1 hv => ?_⟩
    refine ⟨ρ, _, F1, as1, _, _, r1, sl.step g1, e2, fun u H2 F2 as2 g2 r2 hu => ?_⟩
    exact ⟨_, F2, as2, _, _, _, r2, Sv.lk (Sv.gr hv g2) r2, Sv.lk hu r2, hg, fun v' hw => k v' H2 F2 as2 (g1.trans g2) r2 hw⟩
  · cases e
def tMO (K : Frag) (mg : Str → Option Value) (md : List Md) (P : Pt) (m : M (Option Int)) : TO := fun σ H Q =>
  ∃ ρ O F as b O', RlO K mg O H F as ∧ SlO K md P ρ σ H F as ∧ m ρ O = .ok b O' ∧ ∀ H' F' as', Gr H F as H' F' as' → RlO K mg O' H' F' as' → Q b H'
def VO (X : Cx) (md : List Md) (P : Pt) (e : Option Expr) (m : M (Option Int)) : Prop := PO X e (tMO X.K X.mg md P m)
theorem PO.imp {e : Option Expr} {t t' : TO} (h : PO X e t) (k : ∀ σ H Q, t' σ H Q → t σ H Q) : PO X e t' := fun pins s σ H Q I q => h pins s σ H Q I (k σ H Q q)
def moN : M (Option Int) := fun _ O => .ok none O
def moS (m : M D) : M (Option Int) := fun ρ O => (m ρ O).bind fun d O1 => match d with
  | .int i => .ok (some i) O1
  | _ => .no
theorem vo_none {md : List Md} {P : Pt} : VO X md P none moN := po_none.imp fun σ H Q q => by
  obtain ⟨ρ, O, F, as, d, O', r, s, e, k⟩ := q
  cases e
  exact k H F as Gr.refl r
theorem vo_some {md : List Md} {P : Pt} {e : Expr} {m : M D} (h : VE X md P e m) : VO X md P (some e) (moS m) := (po_some h).imp fun σ H Q q => by
  obtain ⟨ρ, O, F, as, d, O', r, s, e, k⟩ := q
  obtain ⟨x, O1, e1, e⟩ := Res.bind_ok e
  cases x with
  | int i =>
    cases e
    exact ⟨ρ, _, F, as, _, _, r, s, e1, fun v H1 F1 as1 g1 r1 hv => ⟨i, Rp.unI hv, k H1 F1 as1 g1 r1⟩⟩
  | _ => cases e
def gSl (d : D) (lo hi : Option Int) : Option D := match d with
  | .lst ds => some (.lst (cutN ds lo hi))
  | .tup ds => some (.tup (cutN ds lo hi))
  | .str l => if l.length ≤ 16777216 then some (.str (cutN l lo hi)) else none
  | _ => none
def rSlD (K : Frag) (mg : Str → Option Value) : V → Option Int → Option Int → Hp → VK → Prop := fun x lo hi H Q => ∃ O F as dx d, RlO K mg O H F as ∧ Lk K H F as x dx ∧ gSl dx lo hi = some d ∧
  ∀ v' H' F', Gr H F as H' F' as → RlO K mg O H' F' as → Ow K (fun a => H a = none) H' F' as v' d → Q v' H'
theorem Rps.cut {K : Frag} {F : Hp} {as : List Addr} {xs : List V} {ds : List D} (h : Rps K F as xs ds) (lo hi : Option Int) : Rps K F as (cutV xs lo hi) (cutN ds lo hi) := by
  unfold cutV cutN
  rw [h.length]
  exact (h.drop _).take _
theorem sl_D : SlR X (rSlD X.K X.mg) := by
  intro pins s σ H x v vl vu lo hi sl Q I rx hs pl pu h
  obtain ⟨O, F, as, dx, d, r, hx, e, k⟩ := h
  cases dx with
  | lst ds =>
    obtain ⟨p, xs, rfl, h1, h2⟩ := hx.list r.fh
    cases e
    exact sl_list pins s σ H _ v vl vu lo hi sl Q I rx hs pl pu ⟨p, xs, rfl, h1.sq, fun q hq => k_lst r k hq (h2.cut lo hi)⟩
  | tup ds =>
    obtain ⟨p, xs, rfl, h1, h2⟩ := (hx.rp rfl).unT
    cases e
    refine sl_tup2 X.K rfl pins s σ H _ v vl vu lo hi sl Q I rx hs pl pu ⟨p, xs, rfl, Same.seqT r.fh h1, fun z => ?_, fun _ q hq => k_tup r k hq (h2.cut lo hi)⟩
    have : cutN ds lo hi = ds := by
      unfold cutN
      rw [← h2.length, z.1, z.2, List.drop_zero, Nat.sub_zero, h2.length, List.take_length]
    rw [this] at k
    exact k_val r k rfl (hx.rp rfl)
  | str l =>
    cases (hx.rp rfl).unS
    simp only [gSl] at e
    split at e
    · rename_i hz
      cases e
      exact sl_str pins s σ H _ v vl vu lo hi sl Q I rx hs pl pu ⟨l, rfl, Nat.le_trans hz (Nat.le_of_eq sizeLine_eq.symm), k_val r k rfl Rp.str⟩
    · cases e
  | _ => cases e
def mSl (m : M D) (lo hi : M (Option Int)) : M D := fun ρ O => (m ρ O).bind fun d O1 => (lo ρ O1).bind fun l O2 => (hi ρ O2).bind fun h O3 => match gSl (deref O3 d) l h with
  | some y => .ok y O3
  | none => .no
end
end L2
namespace L2
open PySem PySem.Spec PyProof.Rows
section
variable {X : Cx} {md : List Md} {P : Pt} {R : RR}
theorem oe_slice {e : Expr} {lo hi : Option Expr} {p2 pos : Pos} {m : M D} {ml mh : M (Option Int)} (he : SE X md P e m) (hl : VO X md P lo ml) (hh : VO X md P hi mh) : OE X md P (.Subscript e (.Slice lo hi none p2) pos) (mSl m ml mh) := (pe_slice sl_D he hl hh).imp fun σ H Q q => by
  obtain ⟨ρ, O, F, as, d, O', r, s, e, k⟩ := q
  obtain ⟨x, O1, e1, e⟩ := Res.bind_ok e
  obtain ⟨l, O2, e2, e⟩ := Res.bind_ok e
  obtain ⟨h, O3, e3, e⟩ := Res.bind_ok e
  split at e
  · rename_i y hg
    cases e
    refine ⟨ρ, _, F, as, _, _, r, s, e1, fun v H1 F1 as1 g1 r1 hv => ?_⟩
    refine ⟨ρ, _, F1, as1, _, _, r1, s.step g1, e2, fun H2 F2 as2 g2 r2 => ?_⟩
    have g12 := g1.trans g2
    refine ⟨ρ, _, F2, as2, _, _, r2, s.step g12, e3, fun H3 F3 as3 g3 r3 => ?_⟩
    have g13 := g12.trans g3
    exact ⟨_, F3, as3, _, _, r3, Sv.lk (Sv.gr (Sv.gr hv g2) g3) r3, hg, fun v' H' F' g' r' hw => k v' H' F' as3 (g13.trans g') r' (rO_ok _ _ _ _ _ _ _ (fun a ha => g13.dm a ha) hw)⟩
  · cases e
def Lks (K : Frag) (H F : Hp) (as : List Addr) : List V → List D → Prop
  | [], [] => True
  | v :: vs, d :: ds => Lk K H F as v d ∧ Lks K H F as vs ds
  | _, _ => False
theorem ArgsR.lks {K : Frag} {mg : Str → Option Value} {O : Store} {H F : Hp} {as : List Addr} (r : RlO K mg O H F as) : ∀ {ms : List Md} {vs : List V} {ds : List D}, ArgsR K H F as ms vs ds → Lks K H F as vs (ds.map (deref O))
  | [], [], [], _ => trivial
  | m :: ms, v :: vs, d :: ds, h => by
    refine ⟨?_, ArgsR.lks r h.2⟩
    have h1 : Sv K H F as v d := by
      cases m with
      | v => exact .inl h.1
      | s => exact h.1
      | o => exact h.1
    exact h1.lk r
  | [], [], _ :: _, h => h.elim
  | [], _ :: _, [], h => h.elim
  | [], _ :: _, _ :: _, h => h.elim
  | _ :: _, [], [], h => h.elim
  | _ :: _, [], _ :: _, h => h.elim
  | _ :: _, _ :: _, [], h => h.elim
def rC (K : Frag) (mg : Str → Option Value) (g : List D → Option D) : List V → Hp → VK → Prop := fun vs H Q => ∃ O F as ds d, RlO K mg O H F as ∧ Lks K H F as vs ds ∧ g ds = some d ∧
  ∀ v' H' F', Gr H F as H' F' as → RlO K mg O H' F' as → Ow K (fun a => H a = none) H' F' as v' d → Q v' H'
abbrev CallD (X : Cx) (f : Value) (g : List D → Option D) : Prop := CallR X f (rC X.K X.mg g)
def mCallB (g : List D → Option D) (ma : M (List D)) : M D := fun ρ O => (ma ρ O).bind fun ds O1 => match g (ds.map (deref O1)) with
  | some d => .ok d O1
  | none => .no
theorem callB_go {K : Frag} {mg : Str → Option Value} {g : List D → Option D} {ms : List Md} {ma : M (List D)} {σ : St} {H : Hp} {Q : VK} (q : tM K mg md P (rO K) (mCallB g ma) σ H Q) : tCB (rC K mg g) (tMA K mg md P ms ma) σ H Q := by
  obtain ⟨ρ, O, F, as, d, O', r, s, e, k⟩ := q
  obtain ⟨ds, O1, e1, e⟩ := Res.bind_ok e
  split at e
  · rename_i y hg
    cases e
    refine ⟨ρ, _, F, as, _, _, r, s, e1, fun vs H1 F1 as1 g1 r1 hv => ?_⟩
    exact ⟨_, F1, as1, _, _, r1, hv.lks r1, hg, fun v' H' F' g' r' hw => k v' H' F' as1 (g1.trans g') r' (rO_ok _ _ _ _ _ _ _ (fun a ha => g1.dm a ha) hw)⟩
  · cases e
theorem oe_callB {x : Str} {p pos : Pos} {e : Expr} {es : List Expr} {id : String} {g : List D → Option D} {ms : List Md} {ma : M (List D)} (hc : CallD X (.builtin id) g) (hm : X.mg x = none) (ha : AE X md P ms (e :: es) ma) (hv : bootBuiltins x = some (.builtin id) := by decide +kernel) (hg : Gl X x := by rfl)
    (hn : x ≠ "__name__" := by decide) (hdb : (x == ("__debug__" : Str)) = false := by decide) (he : starEach (e :: es) X.env = (false, eval e X.env) :: starEach es X.env := by exact starC rfl) (hpl : (backTo pos (starEach es X.env)).any (·.1) = false := by exact starAny rfl) :
    OE X md P (.Call (.Name x p) (e :: es) [] pos) (mCallB g ma) := (pe_callB hc hg hm hv ha hn hdb he hpl).imp fun _ _ _ q => callB_go q
theorem oe_callT {x : Str} {p pos : Pos} {e : Expr} {es : List Expr} {T : String} {g : List D → Option D} {ms : List Md} {ma : M (List D)} (hc : CallD X (.type T) g) (hm : X.mg x = none) (ha : AE X md P ms (e :: es) ma) (hv : bootBuiltins x = some (.type T) := by decide +kernel) (hg : Gl X x := by rfl)
    (hn : x ≠ "__name__" := by decide) (hdb : (x == ("__debug__" : Str)) = false := by decide) (he : starEach (e :: es) X.env = (false, eval e X.env) :: starEach es X.env := by exact starC rfl) (hpl : (backTo pos (starEach es X.env)).any (·.1) = false := by exact starAny rfl) :
    OE X md P (.Call (.Name x p) (e :: es) [] pos) (mCallB g ma) := (pe_callTy hc hg hm hv ha hn hdb he hpl).imp fun _ _ _ q => callB_go q
theorem Lks.one {K : Frag} {H F : Hp} {as : List Addr} {vs : List V} {d : D} (h : Lks K H F as vs [d]) : ∃ v, vs = [v] ∧ Lk K H F as v d := by
  cases vs with
  | nil => exact h.elim
  | cons v vs =>
    cases vs with
    | nil => exact ⟨v, rfl, h.1⟩
    | cons u us => exact h.2.elim
def gLen : List D → Option D
  | [.str l] => if l.length ≤ 1000000 then some (.int l.length) else none
  | [.lst ds] => some (.int ds.length)
  | [.tup ds] => some (.int ds.length)
  | _ => none
theorem cd_len : CallD X (.builtin "len") gLen := by
  intro pins s σ H xs us Q I rs h
  obtain ⟨O, F, as, ds, d, r, hvs, e, k⟩ := h
  unfold gLen at e
  split at e
  · rename_i l
    obtain ⟨v, rfl, hv⟩ := hvs.one
    split at e
    · rename_i hz
      cases e
      cases (hv.rp rfl).unS
      refine call_len pins s σ H _ us Q I rs ⟨_, _, rfl, ⟨by rw [S_length]; exact size6 hz, rfl⟩, ?_⟩
      rw [S_length]
      exact k_val r k rfl Rp.int
    · cases e
  · rename_i l
    obtain ⟨v, rfl, hv⟩ := hvs.one
    cases e
    obtain ⟨p, xs, rfl, h1, h2⟩ := hv.list r.fh
    refine call_len pins s σ H _ us Q I rs ⟨_, _, rfl, .inl ⟨xs, h1.sq, rfl⟩, ?_⟩
    rw [h2.length]
    exact k_val r k rfl Rp.int
  · rename_i l
    obtain ⟨v, rfl, hv⟩ := hvs.one
    cases e
    obtain ⟨p, xs, rfl, h1, h2⟩ := (hv.rp rfl).unT
    refine call_len pins s σ H _ us Q I rs ⟨_, _, rfl, .inr ⟨xs, Same.seqT r.fh h1, rfl⟩, ?_⟩
    rw [h2.length]
    exact k_val r k rfl Rp.int
  · cases e
def gMax : List D → Option D
  | [.int i, .int j] => some (.int (if j > i then j else i))
  | _ => none
def gMin : List D → Option D
  | [.int i, .int j] => some (.int (if j < i then j else i))
  | _ => none
def gInt : List D → Option D
  | [.int i] => some (.int i)
  | [.bl b] => some (.int (if b then 1 else 0))
  | _ => none
def gList : List D → Option D
  | [.lst ds] => some (.lst ds)
  | [.tup ds] => some (.lst ds)
  | _ => none
def boolsD : List D → Option (List Bool)
  | [] => some []
  | .bl b :: ds => (boolsD ds).map (b :: ·)
  | _ => none
theorem Rps.bools {K : Frag} {F : Hp} {as : List Addr} : ∀ {ds : List D} {xs : List V} {bs : List Bool}, Rps K F as xs ds → boolsD ds = some bs → xs = bs.map V.bl
  | [], xs, bs, h, e => by cases e; rw [h.un0]; rfl
  | d :: ds, xs, bs, h, e => by
    obtain ⟨x, r, rfl, h2, h3⟩ := h.un
    cases d with
    | bl b =>
      unfold boolsD at e
      cases q : boolsD ds with
      | none => rw [q] at e; cases e
      | some cs =>
        rw [q] at e
        cases e
        rw [h2.unB, Rps.bools h3 q]
        rfl
    | _ => cases e
def gAll : List D → Option D
  | [.lst ds] => (boolsD ds).map fun bs => .bl (bs.all id)
  | _ => none
theorem cd_all (hc : X.calm = true) : CallD X (.builtin "all") gAll := by
  intro pins s σ H xs us Q I rs h
  obtain ⟨O, F, as, ds, d, r, hvs, e, k⟩ := h
  unfold gAll at e
  split at e
  · rename_i es
    obtain ⟨v, rfl, hv⟩ := hvs.one
    obtain ⟨p, xs, rfl, h1, h2⟩ := hv.list r.fh
    cases q : boolsD es with
    | none => rw [q] at e; cases e
    | some bs =>
      rw [q] at e
      cases e
      refine call_allB hc pins s σ H _ us Q I rs ⟨p, bs, rfl, ?_, k_val r k rfl Rp.bl⟩
      rw [← h2.bools q]
      exact h1.sq
  · cases e
theorem bb_len : bootBuiltins "len" = some (.builtin "len") := by decide +kernel
theorem bb_all : bootBuiltins "all" = some (.builtin "all") := by decide +kernel
theorem bt_str : bootBuiltins "str" = some (.type "str") := by decide +kernel
theorem bt_bool : bootBuiltins "bool" = some (.type "bool") := by decide +kernel
theorem bt_list : bootBuiltins "list" = some (.type "list") := by decide +kernel
def tyD : D → Option String
  | .non => some "NoneType"
  | .bl _ => some "bool"
  | .int _ => some "int"
  | .str _ => some "str"
  | .lst _ => some "list"
  | .tup _ => some "tuple"
  | .dic _ _ => some "dict"
  | .ob _ => none
def isTy (t n : String) : Bool := t == n || (t == "bool" && n == "int")
def mIsi (n : String) (m : M D) : M D := fun ρ O => (m ρ O).bind fun d O1 => match tyD (deref O1 d) with
  | some t => .ok (.bl (isTy t n)) O1
  | none => .no
def isiT : List String := ["str", "int", "bool", "list", "tuple", "dict"]
theorem kit_all (K : Frag) : ∀ d t, tyD d = some t → ∀ n ∈ isiT, PySem.W.kitOne K (.type t) (.type n) = some (isTy t n) := by
  intro d t e n hn
  simp only [isiT, List.mem_cons, List.not_mem_nil, or_false] at hn
  cases d <;> cases e <;> rcases hn with rfl | rfl | rfl | rfl | rfl | rfl <;> first | exact kit_same K _ | kernel_rfl
theorem Lk.ty {K : Frag} {H F : Hp} {as : List Addr} {v : V} {d : D} {t : String} (h : Lk K H F as v d) (fh : Same F H) (e : tyD d = some t) : TyQ K H v t := by
  cases d with
  | non => cases e; rw [(h.rp rfl).unN]; exact .non
  | bl b => cases e; rw [(h.rp rfl).unB]; exact .bl _
  | int b => cases e; rw [(h.rp rfl).unI]; exact .int _
  | str b => cases e; rw [(h.rp rfl).unS]; exact .str _
  | lst ds => cases e; obtain ⟨p, xs, rfl, h1, h2⟩ := h.list fh; exact .lst h1.sq
  | tup ds => cases e; obtain ⟨p, xs, rfl, h1, h2⟩ := (h.rp rfl).unT; exact .tup (Same.seqT fh h1)
  | dic ks vs => cases e; obtain ⟨p, xs, rfl, h1, h2⟩ := (h.rp rfl).unD; exact .dK (fh _ _ h1)
  | ob n => cases e
theorem oe_isi (n : String) {T : Str} {a : Expr} {p p' pos : Pos} {m : M D} (hm : X.mg "isinstance" = none) (hT : X.mg T = none) (h : SE X md P a m) (hb : bootBuiltins T = some (.type n) := by decide +kernel) (hn : n ∈ isiT := by decide) (hg : Gl X "isinstance" := by rfl) (hgT : Gl X T := by rfl)
    (hTn : T ≠ "__name__" := by decide) (hTd : (T == ("__debug__" : Str)) = false := by decide)
    (hs1 : starEach [a, .Name T p'] X.env = (false, eval a X.env) :: starEach [.Name T p'] X.env := by exact starC rfl) (hs2 : starEach [.Name T p'] X.env = (false, eval (.Name T p') X.env) :: starEach [] X.env := by rfl) (hpl : (backTo pos (starEach [.Name T p'] X.env)).any (·.1) = false := by exact starAny rfl) :
    OE X md P (.Call (.Name "isinstance" p) [a, .Name T p'] [] pos) (mIsi n m) :=
  (pe_callB (call_isiK X.K) hg hm (by decide +kernel) (pa_cons h (pa_cons (pe_bltn (v := .ty n) hgT hT hb rfl hTn hTd) pa_nil hs2) hs1) (by decide) (by decide) hs1 hpl).imp fun σ H Q q => by
    obtain ⟨ρ, O, F, as, d, O', r, s, e, k⟩ := q
    obtain ⟨x, O1, e1, e⟩ := Res.bind_ok e
    split at e
    · rename_i t ht
      cases e
      refine ⟨ρ, _, F, as, _, _, r, s, e1, fun v H1 F1 as1 g1 r1 hv => ?_⟩
      exact ⟨v, n, t, _, rfl, Lk.ty (Sv.lk hv r1) r1.fh ht, kit_all _ _ t ht n hn, k _ H1 F1 as1 g1 r1 (.inl ⟨rfl, Rp.bl⟩)⟩
    · cases e
def mList (m : M D) : M (List D) := fun ρ O => (m ρ O).bind fun d O1 => match d with
  | .lst ds => .ok ds O1
  | _ => .no
def mTupI (m : M D) : M (List D) := fun ρ O => (m ρ O).bind fun d O1 => match d with
  | .tup ds => .ok ds O1
  | _ => .no
theorem jok_list {K : Frag} {mg : Str → Option Value} {H F : Hp} {as : List Addr} {a : Addr} {xs : List V} {ds : List D} (hs : Rps K F as xs ds) (hp : ∀ (H2 F2 : Hp) (as2 : List Addr), GrS P H F as H2 F2 as2 → (∃ O, RlO K mg O H2 F2 as2) → RdK K H2 a xs) : JOk K mg P (Itl K a) ds H F as := by
  refine ⟨fun i d H2 F2 as2 g r e => ?_, fun H2 F2 as2 g r => ⟨xs, (hp H2 F2 as2 g r).sq, by rw [hs.length]; exact Nat.le_refl _⟩⟩
  obtain ⟨x, h1, h2⟩ := hs.get' e
  have q := hp H2 F2 as2 g r
  refine ⟨⟨xs, x, q.sq, h1⟩, fun y H3 hy => ?_⟩
  obtain ⟨rfl, hy⟩ := hy
  have := hy xs q.sq
  rw [h1] at this
  cases this
  exact ⟨F2, Gr.refl, fun _ r => r, h2.grS g⟩
end
end L2
namespace L2
open PySem PySem.Spec PyProof.Rows
section
variable {X : Cx} {pins : List (Addr × Obj)} {σ : St} {H : Hp} {s : Shared}
end
section
variable {X : Cx} {elts : List Expr} {x1 : Nat} {tpos : Pos}
end
end L2
namespace L2
open PySem PySem.Spec PyProof.Rows
def rW (K : Frag) (P : Pt) : RR := fun _ H F as v d => Rp K F as v d ∨ ∃ a xs ds, v = .ref a ∧ d = .lst ds ∧ H a = some (.lst xs) ∧ a ∉ as ∧ P a ∧ Rps K F as xs ds
def WE (X : Cx) (md : List Md) (P : Pt) (e : Expr) (m : M D) : Prop := PE X e (tM X.K X.mg md P (rW X.K P) m)
section
variable {X : Cx} {md : List Md} {P : Pt} {R : RR}
theorem we_ve {e : Expr} {m : M D} (h : VE X md P e m) : WE X md P e m := h.imp fun σ H Q q => by
  obtain ⟨ρ, O, F, as, d, O', r, s, e, k⟩ := q
  exact ⟨ρ, O, F, as, d, O', r, s, e, fun v H' F' as' g r' hv => k v H' F' as' g r' (.inl hv)⟩
theorem we_var (i : Nat) {x : Str} {pos : Pos} (hm : md[i]? = some .s := by rfl) (hN : X.N[i]? = some x := by rfl) (hv : Vis X.env.scope x := by first | exact Or.inl rfl | exact Or.inr (Or.inl rfl) | exact Or.inr (Or.inr rfl))
    (hd : (x == ("__debug__" : Str)) = false := by decide) (hcd : (x == ("__classdict__" : Str)) = false := by decide) : WE X md P (.Name x pos) (mVar i) := by
  refine (pe_var (i := i) hN hv hd hcd).imp fun σ H Q h => ?_
  obtain ⟨ρ, O, F, as, d, O', r, s, e, k⟩ := h
  obtain ⟨e1, rfl⟩ := mVar_ok e
  obtain ⟨v, h2, h3⟩ := s.sl i .s d hm e1
  exact ⟨v, h2, k v H F as Gr.refl r h3⟩
theorem jok_w {K : Frag} {mg : Str → Option Value} {N : Addr → Prop} {H F : Hp} {as : List Addr} {v : V} {ds : List D} (hv : rW K P N H F as v (.lst ds)) :
    ∃ a xs, v = .ref a ∧ Rps K F as xs ds ∧ ∀ (H2 F2 : Hp) (as2 : List Addr), GrS P H F as H2 F2 as2 → (∃ O, RlO K mg O H2 F2 as2) → RdK K H2 a xs := by
  rcases hv with hv | ⟨a, xs, ds', rfl, e, e3, e4, e5, e6⟩
  · obtain ⟨a, xs, rfl, h1, h2⟩ := hv.unL
    exact ⟨a, xs, rfl, h2, fun H2 F2 as2 g ⟨O, r⟩ => (h1.mono g.ff).mono r.fh⟩
  · cases e
    exact ⟨a, xs, rfl, e6, fun H2 F2 as2 g _ => .inl (.inl (g.fr _ _ e5 e3 e4 rfl))⟩
theorem vi_list {tg e : Expr} {m : M D} (h : WE X md P e m) : VI X md P tg e (mList m) := (pi_list h).imp fun σ H Q q => by
  obtain ⟨ρ, O, F, as, ds, O', r, s, e, k⟩ := q
  obtain ⟨d, O1, e1, e⟩ := Res.bind_ok e
  cases d with
  | lst es =>
    cases e
    refine ⟨ρ, _, F, as, _, _, r, s, e1, fun v H1 F1 as1 g1 r1 hv => ?_⟩
    obtain ⟨a, xs, rfl, h1, h2⟩ := jok_w (mg := X.mg) hv
    exact ⟨a, rfl, ⟨xs, (h2 H1 F1 as1 GrS.refl ⟨_, r1⟩).sq⟩, k _ H1 F1 as1 g1 r1 (jok_list h1 h2)⟩
  | _ => cases e
theorem vi_tup {tg e : Expr} {m : M D} (h : VE X md P e m) : VI X md P tg e (mTupI m) := (pi_tup h).imp fun σ H Q q => by
  obtain ⟨ρ, O, F, as, ds, O', r, s, e, k⟩ := q
  obtain ⟨d, O1, e1, e⟩ := Res.bind_ok e
  cases d with
  | tup es =>
    cases e
    refine ⟨ρ, _, F, as, _, _, r, s, e1, fun v H1 F1 as1 g1 r1 hv => ?_⟩
    obtain ⟨a, xs, rfl, h1, h2⟩ := Rp.unT hv
    have hp : ∀ (H2 F2 : Hp) (as2 : List Addr), GrS P H1 F1 as1 H2 F2 as2 → (∃ O, RlO X.K X.mg O H2 F2 as2) → SqT X.K H2 a xs := fun H2 F2 as2 g ⟨O, r⟩ => Same.seqT r.fh (Same.seqT g.ff h1)
    refine ⟨a, rfl, ⟨xs, hp H1 F1 as1 GrS.refl ⟨_, r1⟩⟩, k _ H1 F1 as1 g1 r1 ⟨fun i d H2 F2 as2 g r e => ?_, fun H2 F2 as2 g r => ⟨xs, hp H2 F2 as2 g r, by rw [h2.length]; exact Nat.le_refl _⟩⟩⟩
    obtain ⟨x, h3, h4⟩ := h2.get' e
    have q := hp H2 F2 as2 g r
    refine ⟨⟨xs, x, q, h3⟩, fun y H3 hy => ?_⟩
    obtain ⟨rfl, hy⟩ := hy
    have := hy xs q
    rw [h3] at this
    cases this
    exact ⟨F2, Gr.refl, fun _ r => r, h4.grS g⟩
  | _ => cases e
def signsD (l : List Nat) : List D := l.map fun c => .str [c]
def mStrI (m : M D) : M (List D) := fun ρ O => (m ρ O).bind fun d O1 => match d with
  | .str l => if ascii l = true then .ok (signsD l) O1 else .no
  | _ => .no
theorem jok_same {K : Frag} {mg : Str → Option Value} {J : It} {ds : List D} {H F : Hp} {as : List Addr} (h1 : ∀ (i : Nat) (d : D) (H2 : Hp), ds[i]? = some d → J.go i H2 ∧ ∀ x H3, J.yld i H2 x H3 → H3 = H2 ∧ ∀ K F as, Rp K F as x d) (h2 : ∀ H2, J.stop ds.length H2) : JOk K mg P J ds H F as :=
  ⟨fun i d H2 F2 as2 _ _ e => ⟨(h1 i d H2 e).1, fun x H3 y => by
    obtain ⟨rfl, hx⟩ := (h1 i d H2 e).2 x H3 y
    exact ⟨F2, Gr.refl, fun _ r => r, hx _ _ _⟩⟩, fun H2 _ _ _ _ => h2 H2⟩
theorem vi_str {tg e : Expr} {m : M D} (h : SE X md P e m) : VI X md P tg e (mStrI m) := (pi_str h).imp fun σ H Q q => by
  obtain ⟨ρ, O, F, as, ds, O', r, s, e, k⟩ := q
  obtain ⟨d, O1, e1, e⟩ := Res.bind_ok e
  cases d with
  | str l =>
    dsimp only at e
    split at e
    · rename_i hl
      cases e
      refine ⟨ρ, _, F, as, _, _, r, s, e1, fun v H1 F1 as1 g1 r1 hv => ?_⟩
      refine ⟨l, (Sv.rp hv rfl).unS, hl, k _ H1 F1 as1 g1 r1 (jok_same (fun i d H2 e => ?_) fun H2 => by simp [signsD, Its])⟩
      unfold signsD at e
      rw [List.getElem?_map] at e
      cases q : l[i]? with
      | none => rw [q] at e; cases e
      | some c =>
        rw [q] at e
        cases e
        refine ⟨(List.getElem?_eq_some_iff.mp q).1, fun x H3 y => ?_⟩
        obtain ⟨e1, c', e2, rfl⟩ := y
        rw [q] at e2
        cases e2
        exact ⟨e1, fun _ _ _ => Rp.str⟩
    · cases e
  | _ => cases e
def rangeD (lo : Int) (n : Nat) : List D := (List.range n).map fun (k : Nat) => .int (lo + (k : Int))
def mRng1 (m : M (List D)) : M (List D) := fun ρ O => (m ρ O).bind fun ds O1 => match ds with
  | [.int j] => if j ≤ 1000000000 ∧ -1000000000 ≤ j then .ok (rangeD 0 j.toNat) O1 else .no
  | _ => .no
theorem jok_range {K : Frag} {mg : Str → Option Value} {lo : Int} {n : Nat} {H F : Hp} {as : List Addr} : JOk K mg P (Itr lo n) (rangeD lo n) H F as := jok_same (fun i d H2 e => by
  unfold rangeD at e
  rw [List.getElem?_map] at e
  by_cases hi : i < n
  · rw [List.getElem?_range hi] at e
    cases e
    refine ⟨hi, fun x H3 y => ?_⟩
    obtain ⟨e1, rfl⟩ := y
    exact ⟨e1, fun _ _ _ => Rp.int⟩
  · rw [List.getElem?_eq_none (by simpa using hi)] at e
    cases e) fun H2 => by simp [rangeD, Itr]
theorem ArgsR.one {K : Frag} {H F : Hp} {as : List Addr} {m : Md} {vs : List V} {d : D} (h : ArgsR K H F as [m] vs [d]) : ∃ v, vs = [v] ∧ rA K m (fun _ => True) H F as v d := by
  cases vs with
  | nil => exact h.elim
  | cons v vs =>
    cases vs with
    | nil => exact ⟨v, rfl, h.1⟩
    | cons u us => exact h.2.elim
theorem vi_range1 {tg a : Expr} {p pos : Pos} {m : M (List D)} (hm : X.mg "range" = none) (ha : AE X md P [.s] [a] m) (hg : Gl X "range" := by rfl) (hs : starEach [a] X.env = [(false, eval a X.env)] := by exact star1 rfl) : VI X md P tg (.Call (.Name "range" p) [a] [] pos) (mRng1 m) := (pi_range1 hg hm ha hs).imp fun σ H Q q => by
  obtain ⟨ρ, O, F, as, ds, O', r, s, e, k⟩ := q
  obtain ⟨es, O1, e1, e⟩ := Res.bind_ok e
  split at e
  · rename_i j
    split at e
    · rename_i hj
      cases e
      refine ⟨ρ, _, F, as, _, _, r, s, e1, fun vs H1 F1 as1 g1 r1 hv => ?_⟩
      obtain ⟨v, rfl, hv1⟩ := hv.one
      have := (Sv.rp hv1 rfl).unI
      subst this
      exact ⟨j, rfl, by omega, by omega, k _ H1 F1 as1 g1 r1 jok_range⟩
    · cases e
  · cases e
def enumD : Nat → List D → List D
  | _, [] => []
  | k, d :: ds => .tup [.int k, d] :: enumD (k + 1) ds
variable {elts : List Expr} {x1 : Nat} {tpos : Pos}
def strsD : List D → Option (List (List Nat))
  | [] => some []
  | .str l :: ds => (strsD ds).map (l :: ·)
  | _ => none
theorem Rps.strs {K : Frag} {F : Hp} {as : List Addr} : ∀ {ds : List D} {xs : List V} {ls : List (List Nat)}, Rps K F as xs ds → strsD ds = some ls → xs = ls.map fun l => V.str (S l)
  | [], xs, bs, h, e => by cases e; rw [h.un0]; rfl
  | d :: ds, xs, bs, h, e => by
    obtain ⟨x, r, rfl, h2, h3⟩ := h.un
    cases d with
    | str b =>
      unfold strsD at e
      cases q : strsD ds with
      | none => rw [q] at e; cases e
      | some cs =>
        rw [q] at e
        cases e
        rw [h2.unS, Rps.strs h3 q]
        rfl
    | _ => cases e
def mJoin (m : M D) : M D := fun ρ O => (m ρ O).bind fun d O1 => match deref O1 d with
  | .lst ds => match strsD ds with
    | some ls => if (ls.map List.length).sum ≤ 1000000 then .ok (.str ls.flatten) O1 else .no
    | none => .no
  | _ => .no
theorem oe_join {e : Expr} {j : Nat} {p apos cpos : Pos} {m : M D} (h : SE X md P e m) {x : Str} (hx : x = S [] := by decide +kernel)
    (hfew : ((backTo cpos (starEach [e] X.env)).all (fun x => !x.1) && (backToKw cpos (keywordEach [] X.env)).all (fun x => x.1.isSome) && decide ([e].length + ([] : List Keyword).length + (if ([] : List Keyword).isEmpty then 0 else 1) < 30)) = true := by rfl)
    (hline : (apos.endLine == cpos.line) = true := by rfl) (hs : starEach [e] X.env = (false, eval e X.env) :: starEach [] X.env := by exact starC rfl) (hbase : attributeBase (.Constant (.str x) j p) "join" X.env (eval (.Constant (.str x) j p) X.env) = eval (.Constant (.str x) j p) X.env := by rfl) (hplain : (backTo cpos (starEach [] X.env)).any (·.1) = false := by exact starAny rfl) :
    OE X md P (.Call (.Attribute (.Constant (.str x) j p) "join" apos) [e] [] cpos) (mJoin m) :=
  (pe_bm PySem.F.plainAttrs_str PySem.F.slot_str_join PySem.F.type_str_join (mt_joinK X.K) (pe_str (x := x)) (pa_cons h pa_nil hs) hbase hfew hline hs hplain).imp fun σ H Q q => by
    obtain ⟨ρ, O, F, as, d, O', r, s, e, k⟩ := q
    obtain ⟨y, O1, e1, e⟩ := Res.bind_ok e
    cases ed : deref O1 y with
    | lst ds =>
      rw [ed] at e
      dsimp only at e
      cases es : strsD ds with
      | none => rw [es] at e; cases e
      | some ls =>
        rw [es] at e
        dsimp only at e
        split at e
        · rename_i hz
          cases e
          refine ⟨rfl, ρ, _, F, as, _, _, r, s, e1, fun v H1 F1 as1 g1 r1 hv => ?_⟩
          have q := Sv.lk hv r1
          rw [ed] at q
          obtain ⟨a, xs, rfl, h1, h2⟩ := q.list r1.fh
          refine ⟨a, ls, by rw [hx], rfl, ?_, hz, k _ H1 F1 as1 g1 r1 (.inl ⟨rfl, Rp.str⟩)⟩
          rw [← h2.strs es]
          exact h1.sq
        · cases e
    | _ => rw [ed] at e; cases e
def mStarts (mo m : M D) : M D := fun ρ O => (mo ρ O).bind fun a O1 => (m ρ O1).bind fun b O2 => match a, b with
  | .str l, .str n => .ok (.bl (decide (l.take n.length = n))) O2
  | _, _ => .no
end
end L2
namespace L2
open PySem PySem.Spec PyProof.Rows
section
variable {K : Frag} {mg : Str → Option Value} {md : List Md} {P : Pt} {ρ : DEnv} {σ : St} {H F : Hp} {as : List Addr} {O : Store} {i : Nat} {a : Addr} {xs xs' : List V} {ds ds' : List D}
theorem SlO.own (s : SlO K md P ρ σ H F as) (hm : md[i]? = some .o) (hρ : ρ[i]? = some (some (.lst ds))) : ∃ a xs, σ[i]? = some (some (.ref a)) ∧ H a = some (.lst xs) ∧ F a = none ∧ a ∉ as ∧ ¬ P a ∧ Rps K F as xs ds := by
  obtain ⟨v, h1, h2⟩ := s.sl i .o _ hm hρ
  rcases h2 with ⟨h2, _⟩ | ⟨a, xs, es, rfl, e2, e3, e0, e4, e5, e6⟩
  · cases h2
  · cases e2
    exact ⟨a, xs, h1, e3, e0, e4, e5, e6⟩
theorem SlO.mut (s : SlO K md P ρ σ H F as) (hm : md[i]? = some .o) (hρ : ρ[i]? = some (some (.lst ds))) (hσ : σ[i]? = some (some (.ref a))) (hF : F a = none) (ha : a ∉ as) (hP : ¬ P a) (r : Rps K F as xs' ds') : SlO K md P (ρ.set i (some (.lst ds'))) σ (upd H a (.lst xs')) F as := by
  have hi : i < md.length := (List.getElem?_eq_some_iff.mp hm).1
  refine ⟨s.len, by rw [List.length_set]; exact s.len', fun c p => ?_, fun j m d e1 e2 => ?_, fun j k c es fs h1 h2 h3 h4 h5 h6 => ?_, fun x hx => ?_⟩
  · have := s.pd c p
    unfold upd
    split
    · exact fun z => nomatch z
    · exact this
  · by_cases h : i = j
    · subst h
      rw [hm] at e1; cases e1
      rw [List.getElem?_set_self (by rw [s.len']; exact hi)] at e2
      cases e2
      exact ⟨_, hσ, .inr ⟨a, xs', ds', rfl, rfl, upd_same, hF, ha, hP, r⟩⟩
    · rw [List.getElem?_set_ne h] at e2
      obtain ⟨v, q1, q2⟩ := s.sl j m d e1 e2
      refine ⟨v, q1, ?_⟩
      cases m with
      | v => exact q2
      | s =>
        rcases q2 with q2 | ⟨c, ys, es, z1, z2, z3, z4, z5, z6⟩
        · exact .inl q2
        · exact .inr ⟨c, ys, es, z1, z2, by rw [upd_ne (fun z => hP (by rw [← z]; exact z5))]; exact z3, z4, z5, z6⟩
      | o =>
        rcases q2 with q2 | ⟨c, ys, es, z1, z2, z3, z0, z4, z5, z6⟩
        · exact .inl q2
        · refine .inr ⟨c, ys, es, z1, z2, ?_, z0, z4, z5, z6⟩
          rw [upd_ne]
          · exact z3
          · intro z
            subst z z1 z2
            exact h (s.inj i j c ds es hm e1 hρ e2 hσ q1)
  · have f : ∀ k es, (ρ.set i (some (.lst ds')))[k]? = some (some (D.lst es)) → ∃ es', ρ[k]? = some (some (D.lst es')) := fun k es q => by
      by_cases h : i = k
      · subst h; exact ⟨ds, hρ⟩
      · rw [List.getElem?_set_ne h] at q; exact ⟨es, q⟩
    obtain ⟨es', q3⟩ := f j es h3
    obtain ⟨fs', q4⟩ := f k fs h4
    exact s.inj j k c es' fs' h1 h2 q3 q4 h5 h6
  · obtain ⟨p1, p2, p3⟩ := s.pin x hx
    have hne : i ≠ x.1 := fun z => by rw [← z, hm] at p1; cases p1
    exact ⟨p1, by rw [List.getElem?_set_ne hne]; exact p2, p3⟩
theorem mut_gr (hH : H a ≠ none) (hP : ¬ P a) {o : HO} : GrS P H F as (upd H a o) F as :=
  ⟨fun _ _ _ => rfl, Same.refl F, ⟨[], by simp, fun _ h => nomatch h⟩, fun c u p e _ _ => by rw [upd_ne (fun z => hP (by rw [← z]; exact p))]; exact e, fun c e => by
    by_cases h : c = a
    · subst h; rw [upd_same] at e; cases e
    · rwa [upd_ne h] at e⟩
theorem RlO.mut (r : RlO K mg O H F as) (hF : F a = none) (ha : a ∉ as) {o : HO} : RlO K mg O (upd H a o) F as := by
  refine ⟨fun c u e => ?_, r.fd, r.nd, r.len, r.fa, fun n c u hc hu => (r.ob n c u hc hu).keep (upd_ne ?_) (Same.refl F) fun _ _ h => h⟩
  · rw [upd_ne (ne_of_none e hF)]; exact r.fh c u e
  · intro z; subst z; exact ha (List.mem_of_getElem? hc)
end
section
variable {X : Cx} {md : List Md} {P : Pt} {R : RR}
def msApp (i : Nat) (m : M D) : MS := fun ρ O => match m ρ O with
  | .ok d O' => match ρ[i]? with
    | some (some (.lst ds)) => if ds.length < 1000000 then .nx (ρ.set i (some (.lst (ds ++ [d])))) O' else .no
    | _ => .no
  | .ex x O' => .ex x O'
  | .no => .no
theorem msApp_inv {i : Nat} {m : M D} {ρ : DEnv} {O : Store} (K : Frag) (mg : Str → Option Value) {D : Ends} {H F : Hp} {as : List Addr} (k : FlOk K mg md P R D H F as (msApp i m ρ O)) :
    ∃ d O' ds, m ρ O = .ok d O' ∧ ρ[i]? = some (some (.lst ds)) ∧ ds.length < 1000000 ∧ FlOk K mg md P R D H F as (.nx (ρ.set i (some (.lst (ds ++ [d])))) O') := by
  unfold msApp at k
  split at k
  · rename_i d O' e
    split at k
    · rename_i ds e2
      split at k
      · rename_i hz
        exact ⟨d, O', ds, e, e2, hz, k⟩
      · exact False.elim k
    · exact False.elim k
  · exact False.elim k
  · exact False.elim k
theorem vs_append (i : Nat) {x : Str} {p apos cpos pos : Pos} {e : Expr} {m : M D} (h : VE X md P e m) (hm : md[i]? = some .o := by rfl) (hN : X.N[i]? = some x := by rfl) (hv : Vis X.env.scope x := by first | exact Or.inl rfl | exact Or.inr (Or.inl rfl) | exact Or.inr (Or.inr rfl))
    (hd : (x == ("__debug__" : Str)) = false := by decide) (hcd : (x == ("__classdict__" : Str)) = false := by decide)
    (hbase : attributeBase (.Name x p) "append" X.env (eval (.Name x p) X.env) = eval (.Name x p) X.env := by rfl)
    (hfew : ((backTo cpos (starEach [e] X.env)).all (fun x => !x.1) && (backToKw cpos (keywordEach [] X.env)).all (fun x => x.1.isSome) && decide ([e].length + ([] : List Keyword).length + (if ([] : List Keyword).isEmpty then 0 else 1) < 30)) = true := by rfl)
    (hline : (apos.endLine == cpos.line) = true := by rfl) (hs : starEach [e] X.env = (false, eval e X.env) :: starEach [] X.env := by exact starC rfl) (hplain : (backTo cpos (starEach [] X.env)).any (·.1) = false := by exact starAny rfl)
    (hsw : swapsWith (.Call (.Attribute (.Name x p) "append" apos) [e] [] cpos) none pos.line X.env = pure false := by rfl) :
    VS X md P R (.Expr (.Call (.Attribute (.Name x p) "append" apos) [e] [] cpos) pos) (msApp i m) :=
  (ps_expr (pe_bm PySem.F.plainAttrs_list PySem.F.slot_list_append PySem.F.type_list_append mt_append (pe_var (i := i) hN hv hd hcd) (pa_cons h pa_nil hs) hbase hfew hline hs hplain) hsw).imp fun D σ H q => by
    obtain ⟨ρ, O, F, as, r, s, k⟩ := q
    obtain ⟨d, O', ds, e, e2, hz, k⟩ := msApp_inv X.K X.mg k
    obtain ⟨a, xs, h1, h2, h3, h4, h5, h6⟩ := s.own hm e2
    refine ⟨_, h1, .inl ⟨rfl, xs, .inl (.inl h2)⟩, ρ, O, F, as, d, O', r, s, e, fun y H1 F1 as1 g1 r1 hy => ?_⟩
    have s1 := s.step g1
    have hn : H a ≠ none := by rw [h2]; exact fun z => nomatch z
    have q2 := g1.fr _ _ h2 h4 rfl
    have q3 : F1 a = none := by rw [g1.fz a hn]; exact h3
    have q4 := g1.out h4 hn
    have hn1 : H1 a ≠ none := by rw [q2]; exact fun z => nomatch z
    exact ⟨a, xs, y, rfl, rfl, q2, by rw [h6.length]; exact Nat.lt_of_lt_of_le hz (by decide), k σ _ F1 as1 (g1.toS.trans (mut_gr hn1 h5)) (r1.mut q3 q4) (s1.mut hm e2 h1 q3 q4 h5 ((h6.gr g1).snoc hy))⟩
def msExt (i : Nat) (m : M D) : MS := fun ρ O => match m ρ O with
  | .ok d O' => match ρ[i]?, deref O' d with
    | some (some (.lst ds)), .lst es => if ds.length + es.length ≤ 1000000 then .nx (ρ.set i (some (.lst (ds ++ es)))) O' else .no
    | _, _ => .no
  | .ex x O' => .ex x O'
  | .no => .no
end
def putD (f : Str) (v : D) : List (Str × D) → List (Str × D)
  | [] => [(f, v)]
  | (g, x) :: r => if g = f then (g, v) :: r else (g, x) :: putD f v r
section
variable {K : Frag} {F : Hp} {as : List Addr}
theorem FsR.cons_inv {gs : List (Str × V)} {f : Str} {d : D} {fs : List (Str × D)} (h : FsR K F as gs ((f, d) :: fs)) : ∃ v gs', gs = (f, v) :: gs' ∧ Rp K F as v d ∧ FsR K F as gs' fs := by
  obtain ⟨h1, h2⟩ := h
  cases gs with
  | nil => cases h1
  | cons g gs' =>
    obtain ⟨g1, g2⟩ := g
    simp only [List.map_cons, List.cons.injEq] at h1
    obtain ⟨x, r, e, h3, h4⟩ := h2.un
    simp only [List.map_cons, List.cons.injEq] at e
    obtain ⟨rfl, rfl⟩ := e
    exact ⟨g2, gs', by rw [h1.1], h3, ⟨h1.2, h4⟩⟩
theorem FsR.nil_inv {gs : List (Str × V)} (h : FsR K F as gs []) : gs = [] := List.map_eq_nil_iff.mp h.nm
theorem FsR.get : ∀ {fs : List (Str × D)} {gs : List (Str × V)} {f : Str} {d : D}, FsR K F as gs fs → fs.lookup f = some d → ∃ v, gs.lookup f = some v ∧ Rp K F as v d
  | [], _, _, _, _, e => by cases e
  | (g, x) :: fs, gs, f, d, h, e => by
    obtain ⟨v, gs', rfl, h1, h2⟩ := h.cons_inv
    rw [List.lookup_cons] at e ⊢
    cases q : f == g with
    | true =>
      rw [q] at e
      cases e
      exact ⟨v, rfl, h1⟩
    | false =>
      rw [q] at e
      exact FsR.get h2 e
theorem FsR.no : ∀ {fs : List (Str × D)} {gs : List (Str × V)} {f : Str}, FsR K F as gs fs → fs.lookup f = none → gs.lookup f = none
  | [], _, _, h, e => by rw [h.nil_inv]; rfl
  | (g, x) :: fs, gs, f, h, e => by
    obtain ⟨v, gs', rfl, h1, h2⟩ := h.cons_inv
    rw [List.lookup_cons] at e ⊢
    cases q : f == g with
    | true => rw [q] at e; cases e
    | false =>
      rw [q] at e
      exact FsR.no h2 e
theorem FsR.length {fs : List (Str × D)} {gs : List (Str × V)} (h : FsR K F as gs fs) : gs.length = fs.length := by
  have := congrArg List.length h.nm
  simpa using this
theorem RlO.set {mg : Str → Option Value} {O : Store} {H : Hp} {n : Nat} {a : Addr} {o : Ob} {u : HO} (r : RlO K mg O H F as) (ha : as[n]? = some a) (ho : ObR K mg (upd H a u) F as a o) : RlO K mg (O.set n o) (upd H a u) F as := by
  have hF := r.fa a (List.mem_of_getElem? ha)
  refine ⟨fun c w e => ?_, r.fd, r.nd, by rw [List.length_set]; exact r.len, r.fa, fun k c w hc hw => ?_⟩
  · rw [upd_ne (ne_of_none e hF)]; exact r.fh c w e
  · by_cases h : n = k
    · subst h
      rw [ha] at hc; cases hc
      rw [List.getElem?_set_self (by rw [← r.len]; exact (List.getElem?_eq_some_iff.mp ha).1)] at hw
      cases hw
      exact ho
    · rw [List.getElem?_set_ne h] at hw
      refine (r.ob k c w hc hw).keep (upd_ne ?_) (Same.refl F) fun _ _ h => h
      intro z
      subst z
      obtain ⟨l1, q1⟩ := List.getElem?_eq_some_iff.mp ha
      obtain ⟨l2, q2⟩ := List.getElem?_eq_some_iff.mp hc
      exact h ((List.getElem_inj r.nd).mp (q1.trans q2.symm))
end
section
variable {X : Cx} {md : List Md} {P : Pt} {R : RR}
def mFld (cs : List Str) (f : Str) (m : M D) : M D := fun ρ O => (m ρ O).bind fun d O1 => match d with
  | .ob n => match O1[n]? with
    | some (.ins c fs) => if c ∈ cs then match fs.lookup f with
      | some y => .ok y O1
      | none => .no else .no
    | _ => .no
  | _ => .no
def msFld (cs : List Str) (f : Str) (mo mv : M D) : MS := fun ρ O => match mv ρ O with
  | .ok d O1 => match mo ρ O1 with
    | .ok (.ob n) O2 => match O2[n]? with
      | some (.ins c fs) => if c ∈ cs ∧ fs.length < 900 then .nx ρ (O2.set n (.ins c (putD f d fs))) else .no
      | _ => .no
    | _ => .no
  | .ex x O' => .ex x O'
  | .no => .no
end
section
variable {Pr : Program} {w : World} {K : Frag} {mg : Str → Option Value} {base : Heap}
end
section
variable {X : Cx} {md : List Md} {P : Pt} {R : RR} {k : Nat} {c m : Str} {ps : List Str} {p pos apos : Pos} {o e : Expr} {es : List Expr} {pm : List Md} {cf : List D → Store → Res D} {mo : M D} {ma : M (List D)}
def mMeth (c m : Str) (cf : List D → Store → Res D) (mo : M D) (ma : M (List D)) : M D := fun ρ O => (mo ρ O).bind fun d O1 => match d with
  | .ob n => match O1[n]? with
    | some (.ins c' fs) => if c' = c ∧ (fs.lookup m).isNone = true then (ma ρ O1).bind fun ds O2 => cf (.ob n :: ds) O2 else .no
    | _ => .no
  | _ => .no
def mMake (c : Str) (cf : List D → Store → Res D) (ma : M (List D)) : M D := fun ρ O => (ma ρ O).bind fun ds O1 => match cf (.ob O1.length :: ds) (O1 ++ [.ins c []]) with
  | .ok .non O2 => .ok (.ob O1.length) O2
  | .ok _ _ => .no
  | .ex x O2 => .ex x O2
  | .no => .no
end
end L2
namespace L2
open PySem PySem.Spec PyProof.Rows
section
variable {X : Cx} {md : List Md} {P : Pt} {R : RR}
def gIs (neg : Bool) : D → D → Option D
  | .bl a, .bl b => some (.bl (neg ^^ (a == b)))
  | _, _ => none
theorem od_isnot : OpD X (compareOp .IsNot) (gIs true) := by
  intro pins s σ H x y v u Q I rx ry h
  obtain ⟨O, F, as, dx, dy, d, r, hx, hy, e, k⟩ := h
  cases dx with
  | bl a =>
    cases (hx.rp rfl).unB
    cases dy with
    | bl b =>
      cases (hy.rp rfl).unB
      cases e
      refine op_isnotB pins s σ H _ _ v u Q I rx ry ⟨a, b, rfl, rfl, ?_⟩
      rw [Bool.true_xor] at k
      exact k_val r k rfl Rp.bl
    | _ => cases e
  | _ => cases e
def iterD : D → Option (List D)
  | .lst ds => some ds
  | .tup ds => some ds
  | .str l => if ascii l = true then some (signsD l) else none
  | _ => none
def mIter (m : M D) : M (List D) := fun ρ O => (m ρ O).bind fun d O1 => match iterD d with
  | some ds => .ok ds O1
  | none => .no
theorem se_we {e : Expr} {m : M D} (h : WE X md P e m) : SE X md P e m := h.imp fun σ H Q q => by
  obtain ⟨ρ, O, F, as, d, O', r, s, e, k⟩ := q
  refine ⟨ρ, O, F, as, d, O', r, s, e, fun v H' F' as' g r' hv => k v H' F' as' g r' ?_⟩
  rcases hv with hv | ⟨a, xs, ds, e1, e2, e3, e4, e5, e6⟩
  · exact .inl hv
  · exact .inr ⟨a, xs, ds, e1, e2, e3, e4, e6⟩
theorem vi_any {tg e : Expr} {m : M D} (h : WE X md P e m) : VI X md P tg e (mIter m) := fun pins s σ H Q I q => by
  obtain ⟨ρ, O, F, as, ds, O', r, sl, e, k⟩ := q
  obtain ⟨d, O1, e1, e⟩ := Res.bind_ok e
  cases d with
  | lst es =>
    cases e
    exact vi_list h pins s σ H Q I ⟨ρ, O, F, as, _, _, r, sl, by unfold mList; rw [e1]; rfl, k⟩
  | tup es =>
    cases e
    exact vi_tup (ve_se (se_we h)) pins s σ H Q I ⟨ρ, O, F, as, _, _, r, sl, by unfold mTupI mG; rw [e1]; rfl, k⟩
  | str l =>
    simp only [iterD] at e
    split at e
    · rename_i es hes
      split at hes
      · rename_i hl
        cases hes
        cases e
        refine vi_str (se_we h) pins s σ H Q I ⟨ρ, O, F, as, signsD l, _, r, sl, ?_, k⟩
        unfold mStrI
        rw [e1]
        show (if ascii l = true then _ else _) = _
        rw [if_pos hl]
      · cases hes
    · cases e
  | _ => cases e
theorem vic_seen {tg e : Expr} {m : M D} (h : SE X md P e m) : VIc X md P tg e (mList m) := (pi_list h).imp fun σ H Q q => by
  obtain ⟨ρ, O, F, as, ds, O', r, s, e, k⟩ := q
  obtain ⟨d, O1, e1, e⟩ := Res.bind_ok e
  cases d with
  | lst es =>
    cases e
    refine ⟨ρ, _, F, as, _, _, r, s, e1, fun v H1 F1 as1 g1 r1 hv => ?_⟩
    obtain ⟨a, xs, rfl, h1, h2⟩ : ∃ a xs, v = .ref a ∧ Rps X.K F1 as1 xs ds ∧ ∀ (H2 F2 : Hp) (as2 : List Addr), Gr H1 F1 as1 H2 F2 as2 → (∃ O, RlO X.K X.mg O H2 F2 as2) → RdK X.K H2 a xs := by
      rcases hv with hv | ⟨a, xs, ds', rfl, e, e3, e4, e6⟩
      · obtain ⟨a, xs, rfl, h1, h2⟩ := hv.unL
        exact ⟨a, xs, rfl, h2, fun H2 F2 as2 g ⟨O, r⟩ => (h1.mono g.ff).mono r.fh⟩
      · cases e
        exact ⟨a, xs, rfl, e6, fun H2 F2 as2 g _ => .inl (.inl (g.fr _ _ e3 e4 rfl))⟩
    refine ⟨a, rfl, ⟨xs, (h2 H1 F1 as1 Gr.refl ⟨_, r1⟩).sq⟩, k _ H1 F1 as1 g1 r1 ⟨fun i d H2 F2 as2 g r e => ?_, fun H2 F2 as2 g r => ⟨xs, (h2 H2 F2 as2 g r).sq, by rw [h1.length]; exact Nat.le_refl _⟩⟩⟩
    obtain ⟨x, h3, h4⟩ := h1.get' e
    have q := h2 H2 F2 as2 g r
    refine ⟨⟨xs, x, q.sq, h3⟩, fun y H3 hy => ?_⟩
    obtain ⟨rfl, hy⟩ := hy
    have := hy xs q.sq
    rw [h3] at this
    cases this
    exact ⟨F2, Gr.refl, fun _ r => r, h4.gr g⟩
  | _ => cases e
theorem vic_any {tg e : Expr} {m : M D} (h : SE X md P e m) : VIc X md P tg e (mIter m) := fun pins s σ H Q I q => by
  obtain ⟨ρ, O, F, as, ds, O', r, sl, e, k⟩ := q
  obtain ⟨d, O1, e1, e⟩ := Res.bind_ok e
  cases d with
  | lst es =>
    cases e
    exact vic_seen h pins s σ H Q I ⟨ρ, O, F, as, _, _, r, sl, by unfold mList; rw [e1]; rfl, k⟩
  | tup es =>
    cases e
    exact vic_vi (vi_tup (ve_se h)) pins s σ H Q I ⟨ρ, O, F, as, _, _, r, sl, by unfold mTupI mG; rw [e1]; rfl, k⟩
  | str l =>
    simp only [iterD] at e
    split at e
    · rename_i es hes
      split at hes
      · rename_i hl
        cases hes
        cases e
        refine vic_vi (vi_str h) pins s σ H Q I ⟨ρ, O, F, as, signsD l, _, r, sl, ?_, k⟩
        unfold mStrI
        rw [e1]
        show (if ascii l = true then _ else _) = _
        rw [if_pos hl]
      · cases hes
    · cases e
  | _ => cases e
def mEnum (m : M D) : M (List D) := fun ρ O => (m ρ O).bind fun d O1 => match d with
  | .lst ds => .ok (enumD 0 ds) O1
  | .str l => if ascii l = true then .ok (enumD 0 (signsD l)) O1 else .no
  | _ => .no
variable {elts : List Expr} {x1 : Nat} {tpos : Pos}
def Pt.with (P : Pt) (a : Addr) (i : Nat) (d : D) (l : List (Nat × V × D)) : Pt := ⟨fun c => P c ∨ c = a, (i, .ref a, d) :: (l ++ P.ss)⟩
end
end L2
namespace L2
open PySem PySem.Spec PyProof.Rows
theorem law_callR {P : Program} {w : World} {K : PySem.W.Frag} {mg mb : Str → Option Value} {CX : CXT} {k : Nat} {fa a : Addr} {fd : FuncData} {x : Str} {sp : Sp} {s₁ : Shared} {vs : List Value} {ns : List Int}
    (KX : K.In s₁.heap) (hns : s₁.heap.Ns mainGlobals mg) (hb : s₁.heap.Ns builtinsNs mb) (hbb : ∀ x : Str, x ≠ "__name__" → mb x = bootBuiltins x) (hlim : s₁.heap.NoLimit) (hg : s₁.gens = #[])
    (ha : s₁.heap.get? a = some { cls := .type "list", data := .seq vs.toArray }) (hi : IntsAre vs ns) (hl : ns.length ≤ sizeLine) (hr : Room k callerA)
    (F : ∀ base : Heap, K.In base → base.Ns mainGlobals mg → FnOk P w K mg base CX k fa fd [x] sp) (hbind : ∀ (s : Shared) (u : Value), BindsTo s fd ⟨[u], []⟩ [(x, u)])
    (hsp : ∀ H : Hp, Only H → RdK K H a (ns.map V.int) → sp [.ref a] H (fun v _ => v = .bl true) fun _ _ _ => False)
    (hCX : ∀ H e s', CX [] H s₁ (fun _ _ _ => False) e s' → False) :
    codeAny (model P w) callerA (.call (.ref fa) ⟨[.ref a], []⟩) (fun r s' => r = .ok (.ret (.bool true)) ∧ OldK s₁.heap s'.heap ∧ s'.os = s₁.os ∧ AllBare s'.gens) s₁ := by
  have rv := vals_ints hi
  have lenV := hi.length
  have core : ∀ H : Hp, Only H → RdK K H a (ns.map V.int) → HOk P w H s₁.heap → (∀ b, H b ≠ none → b = a) → (H a ≠ none → K.lookup a = none) →
      codeAny (model P w) callerA (.call (.ref fa) ⟨[.ref a], []⟩) (fun r s' => r = .ok (.ret (.bool true)) ∧ OldK s₁.heap s'.heap ∧ s'.os = s₁.os ∧ AllBare s'.gens) s₁ := by
    intro H hO hS hok hA hK
    have base_of : ∀ {b : Addr} {o : Obj}, s₁.heap.get? b = some o → H b = none → (hidT s₁.heap H).get? b = some o := fun e n => hidT_get e n
    have noA : ∀ {b : Addr} {o : Obj} {es : Array DictEntry} {ep : Nat}, s₁.heap.get? b = some o → o.data = .dict es ep → H b = none := fun {b o es ep} e d => by
      cases q : H b with
      | none => rfl
      | some u =>
        have e' : b = a := hA b (by rw [q]; simp)
        subst e'
        rw [ha] at e; cases e
        have d' : Data.seq vs.toArray _ = Data.dict es ep := d
        cases d'
    have nsK : ∀ {b : Addr} {m : Str → Option Value}, s₁.heap.Ns b m → (hidT s₁.heap H).Ns b m := fun {b m} ⟨o, es, ep, e, d, r⟩ => ⟨o, es, ep, base_of e (noA e d), d, r⟩
    have hKb : K.In (hidT s₁.heap H) := fun b o e => base_of (KX b o e) (by
      cases q : H b with
      | none => rfl
      | some u =>
        have e' : b = a := hA b (by rw [q]; simp)
        subst e'
        rw [hK (by rw [q]; simp)] at e; cases e)
    have hM : Mod K mg (hidT s₁.heap H) := ⟨hKb, nsK hns, ⟨mb, nsK hb, hbb⟩, let ⟨mc, h1, h2⟩ := hlim; ⟨mc, nsK h1, h2⟩⟩
    have e0 : Env0 P w K mg (hidT s₁.heap H) callerA [] s₁ H := ⟨rfl, hM, fun b o e => of_hidT e, Nat.le_of_eq (hidT_size _ _), trivial, fun b hb => absurd (show b ∈ ([] : List Addr) from hb) (by simp), hok, .of_eq hg⟩
    refine codeAny_mono ((F _ hKb (nsK hns)).run callerA [] s₁ H ⟨[.ref a], []⟩ [.ref a] [.ref a] _ _ hr e0 (hbind s₁ (.ref a)) (.cons rfl .nil) (hsp H hO hS)) fun r s' h => ?_
    cases r with
    | error e => exact (hCX H e s' h).elim
    | ok fl =>
      cases fl with
      | next => exact False.elim h
      | brk => exact False.elim h
      | cont => exact False.elim h
      | ret u =>
        obtain ⟨v, H', os, bare, un, hok', r', q⟩ := h
        have q' : v = .bl true := q
        subst q'
        obtain rfl : u = Value.bool true := r'
        refine ⟨rfl, OldK.of_keep fun b o e => ?_, os, bare⟩
        cases q : H b with
        | none => exact un.keep b o e q (by intro z; exact absurd (show b ∈ ([] : List Addr) from z) (by simp)) (by simp)
        | some u =>
          rcases hO b with z | ⟨ob, xs, z⟩
          · rw [q] at z; cases z
          · have z2 := un.frzs b ob _ z
            obtain ⟨e1, _⟩ := hok b _ z
            obtain ⟨e2, _⟩ := hok' b _ z2
            rw [e] at e1; cases e1
            exact e2
  cases hk : K.lookup a with
  | some o =>
    have e := KX a o hk
    rw [ha] at e
    cases e
    refine core (fun _ => none) (fun _ => .inl rfl) (.inr ⟨vs, _, hk, by rw [lenV]; exact hl, rv⟩) (fun b u z => by have z' : (none : Option HO) = some u := z; cases z') (fun b z => absurd rfl z) fun z => absurd rfl z
  | none =>
    refine core (fun b => if b = a then some (.frz { cls := .type "list", data := .seq vs.toArray } (.lst (ns.map V.int))) else none) (fun b => ?_) (.inl (.inr ⟨{ cls := .type "list", data := .seq vs.toArray }, if_pos rfl⟩)) (fun b u z => ?_) (fun b z => ?_) fun _ => hk
    · by_cases hb : b = a
      · exact .inr ⟨_, _, if_pos hb⟩
      · exact .inl (if_neg hb)
    · by_cases hb : b = a
      · have z' := (if_pos hb).symm.trans z
        cases z'
        subst hb
        exact ⟨ha, by rw [List.length_map]; exact hl, vs, _, rv, ha⟩
      · have z' := (if_neg hb).symm.trans z
        cases z'
    · by_cases hb : b = a
      · exact hb
      · exact absurd (if_neg hb) z
theorem walk_ofR {l : PySem.W.OpenLaw} {n k : Nat} {q : Program} {loose : List Str} {XP : (Str → Option Value) → Heap → Prop} {YP : World → Heap → Prop} {d : DefRec} {K : Params → PySem.W.Frag} {CX : World → CXT} {sp : World → Sp} {x : Str}
    (hn : l.most = some n) (hn2 : n ≤ sizeLine) (hdf : d.params.defaults = []) (hr : Room k callerA)
    (hY : ∀ (w : World) (h : Heap), YP w h → (K w.params).In h)
    (F : ∀ (w : World) (mg : Str → Option Value) (fa : Addr) (h : Heap), (K w.params).In h → h.Ns mainGlobals mg → mg d.name = some (.ref fa) →
      ∃ fd : FuncData, (∀ (s : Shared) (u : Value), BindsTo s fd ⟨[u], []⟩ [(x, u)]) ∧
        ∀ base : Heap, (K w.params).In base → base.Ns mainGlobals mg → FnOk l.prog w (K w.params) mg base (CX w) k fa fd [x] (sp w))
    (hsp : ∀ (w : World) (H : Hp) (a : Addr) (ns : List Int), ns.length ≤ n → Only H → RdK (K w.params) H a (ns.map V.int) → sp w [.ref a] H (fun v _ => v = .bl true) fun _ _ _ => False)
    (hCX : ∀ (w : World) (H : Hp) (s : Shared) (e : Value) (s' : Shared), CX w [] H s (fun _ _ _ => False) e s' → False) :
    PySem.W.WalkO q loose XP YP l.row.toRowW d [] (fun f vs => PySem.call f vs) := by
  refine Att.attach_call hn hdf fun w s₀ s₁ mg mb fa o pm cd doc a vs ns G Y ho hd hcd hmg hobj hints hlen hg => ?_
  have KX := hY w _ Y
  obtain ⟨fd, hb, hF⟩ := F w mg fa _ KX G.T.g hmg
  exact law_callR KX G.T.g G.T.b G.T.builtins G.T.nolimit hg hobj hints (Nat.le_trans hlen hn2) hr hF hb (fun H hO hS => hsp w H a ns hlen hO hS) fun H e s' => hCX w H s₁ e s'
def sp_law (K : Frag) : Sp := fun vs H Q _ => ∃ (a : Addr) (ns : List Int), vs = [.ref a] ∧ RdK K H a (ns.map V.int) ∧ ns.length ≤ 63 ∧ Only H ∧ ∀ H', Q (.bl true) H'
theorem Rps.ofInts {K : Frag} {F : Hp} {as : List Addr} : ∀ ns : List Int, Rps K F as (ns.map V.int) (ns.map D.int)
  | [] => Rps.nil
  | n :: ns => Rps.cons Rp.int (Rps.ofInts ns)
theorem law_spV {K : Frag} {mg : Str → Option Value} {c : List D → Store → Res D} (h : ∀ ns : List Int, ns.length ≤ 63 → ∃ O', c [.lst (ns.map D.int)] [] = .ok (.bl true) O') : ∀ vs H Q E, sp_law K vs H Q E → vSp K mg [.s] (rV K) c vs H Q E := by
  rintro vs H Q E ⟨a, ns, rfl, hS, hl, hO, q⟩
  obtain ⟨O', e⟩ := h ns hl
  have r : RlO K mg [] H H [] := ⟨Same.refl H, fun b o e => by
    rcases hO b with z | ⟨o', xs, z⟩
    · rw [e] at z; cases z
    · rw [e] at z; cases z; rfl, List.nodup_nil, rfl, (fun _ z => nomatch z), fun n b o z => by cases z⟩
  refine ⟨[.lst (ns.map D.int)], [], H, [], .bl true, O', r, ⟨.inl (Rp.mkL hS (Rps.ofInts ns)), trivial⟩, e, fun v H' F' as' g r' hv => ?_⟩
  rw [Rp.unB hv]
  exact q H'
end L2
namespace L2
open PySem PySem.Spec PyProof.Rows
def keyOf : D → Option Key
  | .int i => some (.inl i)
  | .str l => some (.inr (S l))
  | _ => none
theorem keyD_of {d : D} {k : Key} (h : keyOf d = some k) : keyD k = d := by
  cases d with
  | int i => cases h; rfl
  | str l => cases h; show D.str (S l).cps.toList = _; rw [S_cps]
  | _ => cases h
theorem Rp.key {K : Frag} {F : Hp} {as : List Addr} {v : V} {d : D} {k : Key} (h : Rp K F as v d) (e : keyOf d = some k) : v = kV k := by
  cases d with
  | int i => cases e; exact h.unI
  | str l => cases e; exact h.unS
  | _ => cases e
section
variable {X : Cx} {md : List Md} {P : Pt}
theorem ve_dnew {pos : Pos} : VE X md P (.Dict [] [] pos) (mC (.dic [] [])) := pe_dnewK.imp fun σ H Q q => by
  obtain ⟨ρ, O, F, as, d, O', r, s, e, k⟩ := q
  cases e
  intro p hp
  have hF := r.frF hp
  refine k _ _ (upd F p (.dK [])) as ((Gr.lay hp).frz hp hF) ((r.lay hp).frz upd_same hF (fun z => r.all z hp) rfl) ?_
  show Rp X.K _ _ _ _
  rw [Rp]
  exact ⟨p, [], rfl, upd_same, rfl, Rps.nil⟩
def Prs (K : Frag) (F : Hp) (as : List Addr) : List (V × V) → List (D × D) → Prop
  | [], [] => True
  | p :: ps, d :: ds => Rp K F as p.1 d.1 ∧ Rp K F as p.2 d.2 ∧ Prs K F as ps ds
  | _, _ => False
def DPE (X : Cx) (md : List Md) (P : Pt) (pos : Pos) (keys : List (Option Expr)) (values : List Expr) (m : M (List (D × D))) : Prop := ∃ trs : List (TE × TE),
  PPs X pos keys values trs ∧ ∀ σ H Q, (∃ ρ O F as kv O', RlO X.K X.mg O H F as ∧ SlO X.K md P ρ σ H F as ∧ m ρ O = .ok kv O' ∧ ∀ ps H' F' as', Gr H F as H' F' as' → RlO X.K X.mg O' H' F' as' → Prs X.K F' as' ps kv → Q ps H') → tPairs trs σ H Q
def mpNil : M (List (D × D)) := fun _ O => .ok [] O
def mpCons (mk mv : M D) (r : M (List (D × D))) : M (List (D × D)) := fun ρ O => (mk ρ O).bind fun a O1 => (mv ρ O1).bind fun b O2 => (r ρ O2).bind fun ps O3 => .ok ((a, b) :: ps) O3
def keysOf : List (D × D) → Option (List Key)
  | [] => some []
  | (a, _) :: r => (keyOf a).bind fun k => (keysOf r).map (k :: ·)
theorem Prs.kvs {K : Frag} {F : Hp} {as : List Addr} : ∀ {kv : List (D × D)} {ps : List (V × V)} {ks : List Key}, Prs K F as ps kv → keysOf kv = some ks →
    ∃ kvs : List (Key × V), ps = kvs.map (fun p => (kV p.1, p.2)) ∧ kvs.map (·.1) = ks ∧ kv.map (·.1) = kvs.map (fun p => keyD p.1) ∧ Rps K F as (kvs.map (·.2)) (kv.map (·.2))
  | [], ps, ks, h, e => by
    cases ps with
    | nil => cases e; exact ⟨[], rfl, rfl, rfl, Rps.nil⟩
    | cons _ _ => exact h.elim
  | (a, b) :: kv, ps, ks, h, e => by
    cases ps with
    | nil => exact h.elim
    | cons p ps =>
      obtain ⟨p1, p2⟩ := p
      unfold keysOf at e
      cases ea : keyOf a with
      | none => rw [ea] at e; cases e
      | some k =>
        rw [ea] at e
        cases er : keysOf kv with
        | none => rw [er] at e; cases e
        | some ks' =>
          rw [er] at e
          cases e
          obtain ⟨kvs, h1, h2, h3, h4⟩ := Prs.kvs h.2.2 er
          refine ⟨(k, p2) :: kvs, ?_, ?_, ?_, Rps.cons h.2.1 h4⟩
          · rw [List.map_cons, ← h1]
            have : p1 = kV k := Rp.key h.1 ea
            rw [this]
          · rw [List.map_cons, h2]
          · rw [List.map_cons, List.map_cons, h3, keyD_of ea]
def mDisp (m : M (List (D × D))) : M D := fun ρ O => (m ρ O).bind fun kv O1 => match keysOf kv with
  | some ks => if ks.Nodup ∧ kv.length ≤ 15 then .ok (.dic (kv.map (·.1)) (kv.map (·.2))) O1 else .no
  | none => .no
theorem Prs.length {K : Frag} {F : Hp} {as : List Addr} : ∀ {kv : List (D × D)} {ps : List (V × V)}, Prs K F as ps kv → ps.length = kv.length
  | [], [], _ => rfl
  | _ :: kv, _ :: ps, h => by simp [Prs.length h.2.2]
  | [], _ :: _, h => h.elim
  | _ :: _, [], h => h.elim
end
section
variable {X : Cx} {md : List Md} {P : Pt} {k : Nat} {c x m : Str} {ps : List Str} {p pos apos : Pos} {o e : Expr} {es : List Expr} {pm : List Md} {cf : List D → Store → Res D} {mo : M D} {ma : M (List D)}
theorem ve_call (C : Can X.prog X.w X.K X.mg X.base x ps k (vSp X.K X.mg pm (rV X.K) cf)) (hr : Room k X.A) (ha : AE X md P pm (e :: es) ma) (hg : Gl X x := by rfl) (hdb : (x == ("__debug__" : Str)) = false := by decide) (he : starEach (e :: es) X.env = (false, eval e X.env) :: starEach es X.env := by exact starC rfl) (hpl : (backTo pos (starEach es X.env)).any (·.1) = false := by exact starAny rfl) :
    VE X md P (.Call (.Name x p) (e :: es) [] pos) (mCall cf ma) := xe_call rV_ok C hr ha hg hdb he hpl
theorem oe_call (C : Can X.prog X.w X.K X.mg X.base x ps k (vSp X.K X.mg pm (rO X.K) cf)) (hr : Room k X.A) (ha : AE X md P pm (e :: es) ma) (hg : Gl X x := by rfl) (hdb : (x == ("__debug__" : Str)) = false := by decide) (he : starEach (e :: es) X.env = (false, eval e X.env) :: starEach es X.env := by exact starC rfl) (hpl : (backTo pos (starEach es X.env)).any (·.1) = false := by exact starAny rfl) :
    OE X md P (.Call (.Name x p) (e :: es) [] pos) (mCall cf ma) := xe_call rO_ok C hr ha hg hdb he hpl
theorem ve_call0 (C : Can X.prog X.w X.K X.mg X.base x ps k (vSp X.K X.mg [] (rV X.K) cf)) (hr : Room k X.A) (hg : Gl X x := by rfl) (hdb : (x == ("__debug__" : Str)) = false := by decide) : VE X md P (.Call (.Name x p) [] [] pos) (mCall cf maNil) := xe_call0 rV_ok C hr hg hdb
end
end L2
namespace L2
open PySem PySem.Spec PyProof.Rows
section
variable {X : Cx} {md : List Md} {P : Pt} {R : RR} {elts : List Expr} {x1 : Nat} {tpos : Pos}
def zipD : List D → List D → List D
  | d :: ds, e :: es => .tup [d, e] :: zipD ds es
  | _, _ => []
def mZip (ma mb : M D) : M (List D) := fun ρ O => (ma ρ O).bind fun d O1 => (mb ρ O1).bind fun e O2 => match d, e with
  | .lst ds, .lst es => .ok (zipD ds es) O2
  | _, _ => .no
def msFz (m : MS) : MS := fun ρ O => match m ρ O with
  | .rt d O' => .rt d O'
  | _ => .no
theorem SlO.toV {K : Frag} {ρ : DEnv} {σ : St} {H F F' : Hp} {as : List Addr} {i : Nat} (s : SlO K md P ρ σ H F as) (hm : md[i]? = some .o) (ff : Same F F')
    (hown : ∀ (j : Nat) (ds : List D) (a : Addr), j ≠ i → md[j]? = some .o → ρ[j]? = some (some (.lst ds)) → σ[j]? = some (some (.ref a)) → F' a = F a)
    (hv : ∀ d, ρ[i]? = some (some d) → ∃ v, σ[i]? = some (some v) ∧ Rp K F' as v d) : SlO K (md.set i .v) P ρ σ H F' as := by
  have hi : i < md.length := (List.getElem?_eq_some_iff.mp hm).1
  have back : ∀ (j : Nat), (md.set i Md.v)[j]? = some Md.o → j ≠ i ∧ md[j]? = some .o := fun j e => by
    by_cases hj : j = i
    · subst hj
      rw [List.getElem?_set_self hi] at e
      cases e
    · rw [List.getElem?_set_ne (Ne.symm hj)] at e
      exact ⟨hj, e⟩
  refine ⟨by rw [List.length_set]; exact s.len, by rw [List.length_set]; exact s.len', s.pd, fun j m d e1 e2 => ?_, fun j k a ds es h1 h2 h3 h4 h5 h6 => s.inj j k a ds es (back j h1).2 (back k h2).2 h3 h4 h5 h6, fun x hx => ?_⟩
  · by_cases hj : j = i
    · subst hj
      rw [List.getElem?_set_self hi] at e1
      cases e1
      exact hv d e2
    · rw [List.getElem?_set_ne (Ne.symm hj)] at e1
      obtain ⟨v, q, t⟩ := s.sl j m d e1 e2
      refine ⟨v, q, ?_⟩
      cases m with
      | v => exact Rp.mono ff (fun _ _ z => z) _ t
      | s =>
        rcases t with t | ⟨a, xs, ds, t1, t2, t3, t4, t5, t6⟩
        · exact .inl (Rp.mono ff (fun _ _ z => z) _ t)
        · exact .inr ⟨a, xs, ds, t1, t2, t3, t4, t5, Rps.mono ff (fun _ _ z => z) _ t6⟩
      | o =>
        rcases t with ⟨t0, t⟩ | ⟨a, xs, ds, rfl, rfl, t3, t0, t4, t5, t6⟩
        · exact .inl ⟨t0, Rp.mono ff (fun _ _ z => z) _ t⟩
        · exact .inr ⟨a, xs, ds, rfl, rfl, t3, by rw [hown j ds a hj e1 e2 q]; exact t0, t4, t5, Rps.mono ff (fun _ _ z => z) _ t6⟩
  · obtain ⟨p1, p2, p3⟩ := s.pin x hx
    have hne : i ≠ x.1 := fun z => by rw [← z, hm] at p1; cases p1
    exact ⟨by rw [List.getElem?_set_ne hne]; exact p1, p2, p3⟩
end
end L2
namespace L2
open PySem PySem.Spec PyProof.Rows
section
variable {prog : Program} {w : World} {A : Around} {E : Value → Shared → Prop}
end
section
variable {X : Cx} {md : List Md} {P : Pt} {R : RR}
theorem RlO.ml {K : Frag} {mg : Str → Option Value} {O : Store} {H F : Hp} {as : List Addr} {n : Nat} {a : Addr} {ds : List D} (r : RlO K mg O H F as) (hn : as[n]? = some a) (hO : O[n]? = some (.ml ds)) : ∃ xs, H a = some (.lst xs) ∧ Rps K F as xs ds := r.ob n a _ hn hO
end
end L2
namespace L2
open PySem PySem.Spec PyProof.Rows
theorem bnd0 {α : Type} {p : List α → Prop} (h : p []) : ∀ us : List α, us.length = 0 → p us := fun us e => by
  cases us with
  | nil => exact h
  | cons a as => cases e
theorem bndS {α : Type} {p : List α → Prop} {n : Nat} (h : ∀ a, ∀ us : List α, us.length = n → p (a :: us)) : ∀ us : List α, us.length = n + 1 → p us := fun us e => by
  cases us with
  | nil => cases e
  | cons a as => exact h a as (Nat.succ.inj e)
end L2
namespace L2
open PySem PySem.Spec PyProof.Rows
section
variable {prog : Program} {w : World} {κ : Type} [DecidableEq κ] {knd : HeapKind prog w κ} {A : Around} {E : Value → Shared → Prop} {s : Shared}
end
section
variable {X : Cx} {pins : List (Addr × Obj)} {σ : St} {H : Hp} {s : Shared} {a b : Addr} {v : V} {r : Value} {kvs : List (List Key × V)} {k : List Key} {A : Around} {E : Value → Shared → Prop}
end
def tksOf : List D → Option (List Key)
  | [] => some []
  | .int i :: ds => (tksOf ds).map (Sum.inl i :: ·)
  | _ => none
theorem Rps.keys {K : Frag} {F : Hp} {as : List Addr} : ∀ {ds : List D} {xs : List V} {ks : List Key}, Rps K F as xs ds → tksOf ds = some ks → xs = ks.map kV ∧ ∃ is : List Int, ks = is.map Sum.inl
  | [], xs, ks, h, e => by cases e; exact ⟨h.un0, [], rfl⟩
  | .int i :: ds, xs, ks, h, e => by
    obtain ⟨x, r, rfl, h1, h2⟩ := h.un
    obtain ⟨ks', e1, rfl⟩ := Option.map_eq_some_iff.mp (show (tksOf ds).map (Sum.inl i :: ·) = some ks from e)
    obtain ⟨q1, is, rfl⟩ := Rps.keys h2 e1
    exact ⟨by rw [h1.unI, q1]; rfl, i :: is, rfl⟩
  | .non :: ds, xs, ks, h, e => by cases e
  | .bl _ :: ds, xs, ks, h, e => by cases e
  | .str _ :: ds, xs, ks, h, e => by cases e
  | .lst _ :: ds, xs, ks, h, e => by cases e
  | .tup _ :: ds, xs, ks, h, e => by cases e
  | .dic _ _ :: ds, xs, ks, h, e => by cases e
  | .ob _ :: ds, xs, ks, h, e => by cases e
def valT (kvs : List (List Key × D)) (k : List Key) : Option D := (kvs.find? fun p => decide (p.1 = k)).map (·.2)
def DtR (K : Frag) (F : Hp) (as : List Addr) (xs : List (List Key × V)) (kvs : List (List Key × D)) : Prop := xs.map (·.1) = kvs.map (·.1) ∧ Rps K F as (xs.map (·.2)) (kvs.map (·.2))
section
variable {K : Frag} {mg : Str → Option Value} {O : Store} {H F H' F' : Hp} {as as' : List Addr}
theorem DtR.len {xs : List (List Key × V)} {kvs : List (List Key × D)} (h : DtR K F as xs kvs) : xs.length = kvs.length := by
  have := congrArg List.length h.1
  simpa using this
theorem DtR.un {xs : List (List Key × V)} {p : List Key × D} {kvs : List (List Key × D)} (h : DtR K F as xs (p :: kvs)) : ∃ v r, xs = (p.1, v) :: r ∧ Rp K F as v p.2 ∧ DtR K F as r kvs := by
  obtain ⟨h1, h2⟩ := h
  cases xs with
  | nil => cases h1
  | cons x r =>
    obtain ⟨v, r', e, q1, q2⟩ := h2.un
    cases e
    rw [List.map_cons, List.map_cons] at h1
    have q3 := (List.cons.inj h1).1
    refine ⟨x.2, r, ?_, q1, (List.cons.inj h1).2, q2⟩
    rw [← q3]
theorem DtR.val {k : List Key} : ∀ {kvs : List (List Key × D)} {xs : List (List Key × V)}, DtR K F as xs kvs → (valT kvs k = none ∧ valV xs k = none) ∨ ∃ d v, valT kvs k = some d ∧ valV xs k = some v ∧ Rp K F as v d
  | [], xs, h => by
    have := h.len
    cases xs with
    | nil => exact .inl ⟨rfl, rfl⟩
    | cons => cases this
  | p :: kvs, xs, h => by
    obtain ⟨v, r, rfl, h1, h2⟩ := h.un
    by_cases e : p.1 = k
    · exact .inr ⟨p.2, v, by simp [valT, List.find?_cons, e], valV_pos e, h1⟩
    · rw [show valT (p :: kvs) k = valT kvs k by simp [valT, List.find?_cons, e], valV_neg (p := (p.1, v)) e]
      exact DtR.val h2
theorem DtR.any {k : List Key} : ∀ {kvs : List (List Key × D)} {xs : List (List Key × V)}, DtR K F as xs kvs → (xs.any fun p => decide (p.1 = k)) = kvs.any fun p => decide (p.1 = k)
  | [], xs, h => by
    have := h.len
    cases xs with
    | nil => rfl
    | cons => cases this
  | p :: kvs, xs, h => by
    obtain ⟨v, r, rfl, h1, h2⟩ := h.un
    rw [List.any_cons, List.any_cons, DtR.any h2]
theorem DtR.mono {xs : List (List Key × V)} {kvs : List (List Key × D)} (h : DtR K F as xs kvs) (e : Same F F') (ea : ∀ (n : Nat) (a : Addr), as[n]? = some a → as'[n]? = some a) : DtR K F' as' xs kvs := ⟨h.1, Rps.mono e ea _ h.2⟩
theorem RlO.dt {n : Nat} {a : Addr} {kvs : List (List Key × D)} (r : RlO K mg O H F as) (hn : as[n]? = some a) (hO : O[n]? = some (.dt kvs)) : ∃ xs, H a = some (.dT xs) ∧ DtR K F as xs kvs := let ⟨xs, h1, h2, h3⟩ := r.ob n a _ hn hO; ⟨xs, h1, h2, h3⟩
theorem Gr.snoc {p : Addr} {o : HO} (hp : H p = none) : Gr H F as (upd H p o) F (as ++ [p]) :=
  ⟨fun _ _ => rfl, Same.refl F, ⟨[p], rfl, fun a h => by rw [List.mem_singleton.mp h]; exact hp⟩, fun a u e _ _ => by rw [upd_ne (ne_of_none e hp)]; exact e, fun a e => by
    by_cases h : a = p
    · subst h; exact hp
    · rwa [upd_ne h] at e⟩
end
section
variable {X : Cx} {md : List Md} {P : Pt} {R : RR}
end
end L2
namespace L2
open PySem PySem.Spec PyProof.Rows
def gInT (neg : Bool) : D → D → Option D
  | x, .lst ds => if (okE x && ds.all okE) = true then some (.bl (neg ^^ ds.any fun y => eqDD y x)) else none
  | _, _ => none
theorem gInT_gen {neg : Bool} {a b d : D} (h : gInT neg a b = some d) : ∃ ds, b = .lst ds ∧ okE a = true ∧ ds.all okE = true ∧ d = .bl (neg ^^ ds.any fun y => eqDD y a) := by
  unfold gInT at h
  split at h
  · split at h
    · rename_i hk
      rw [Bool.and_eq_true] at hk
      cases h
      exact ⟨_, rfl, hk.1, hk.2, rfl⟩
    · cases h
  · cases h
section
variable {X : Cx}
open Classical in
noncomputable def eqR (s : Shared) (x : PyData) (u : Value) : Bool := decide (∃ d as, Reads s.heap u d as ∧ d.canLay0 = true ∧ PyData.eqv d x = true)
open Classical in
theorem eqR_of {s : Shared} {x d : PyData} {u : Value} {as : List Addr} (h : Reads s.heap u d as) (hd : d.canLay0 = true) : eqR s x u = PyData.eqv d x := by
  unfold eqR
  cases e : PyData.eqv d x with
  | true => exact decide_eq_true ⟨d, as, h, hd, e⟩
  | false =>
    refine decide_eq_false fun ⟨d', as', h', hd', e'⟩ => ?_
    rw [← SeqAt.Reads.unique d d' u as as' hd h h', e] at e'
    cases e'
theorem mem_eqR {pins : List (Addr × Obj)} {σ : St} {H F : Hp} {as bs : List Addr} {s : Shared} {x : PyData} {v : Value} {k : Nat} (hr : Room k X.A) (I : Inv X pins σ H s) (fh : Same F H) (hx : Reads s.heap v x bs) (kx : okD x = true) :
    ∀ {ds : List D} {xs : List V} {us : List Value}, Rps X.K F as xs ds → Vals xs us → ds.all okE = true → (∀ u ∈ us, SeqAt.EqAt X.A.in1 s u v (eqR s x u)) ∧ us.any (eqR s x) = ds.any fun y => PyData.eqv (toP y) x
  | [], xs, us, h, r, _ => by
    rw [h.un0] at r
    cases r
    exact ⟨fun u hu => (nomatch hu), rfl⟩
  | d :: ds, xs, us, h, r, f => by
    obtain ⟨y, ys, rfl, h1, h2⟩ := h.un
    rw [List.all_cons, Bool.and_eq_true] at f
    cases r with
    | @cons _ u _ us' r1 r2 =>
      obtain ⟨i1, i2⟩ := mem_eqR hr I fh hx kx h2 r2 f.2
      have f1 := f.1
      unfold okE at f1
      rw [Bool.and_eq_true] at f1
      obtain ⟨cs, rd⟩ := Rep.reads I _ (Lk.rep (Or.inl h1) fh f1.1) r1
      have kd := f1.2
      unfold okD at kd kx
      simp only [Bool.and_eq_true, decide_eq_true_eq] at kd kx
      have e := eqR_of (x := x) rd kd.1
      refine ⟨fun u' hu => ?_, ?_⟩
      · rcases List.mem_cons.mp hu with rfl | hu
        · rw [e]
          exact SeqAt.eqAt_reads _ _ _ _ _ _ _ _ rd hx kd.1 kx.1 (by have := hr.units; show X.A.units + 1 + _ < _; omega)
        · exact i1 u' hu
      · rw [List.any_cons, List.any_cons, e, i2]
theorem od_inT {k : Nat} (hr : Room k X.A) : OpD X (compareOp .In) (gInT false) := by
  intro pins s σ H x y v u Q I rx ry h'
  obtain ⟨O, F, as, dx, dy, d, r, hx, hy, e, k⟩ := h'
  obtain ⟨ds, rfl, h1, h2, rfl⟩ := gInT_gen e
  obtain ⟨p, xs, rfl, h3, h4⟩ := hy.list r.fh
  obtain ⟨its, rv, pl, _⟩ := I.list h3.sq
  cases ry
  unfold okE at h1
  rw [Bool.and_eq_true] at h1
  obtain ⟨bs, rd⟩ := Rep.reads I _ (hx.rep r.fh h1.1) rx
  obtain ⟨m1, m2⟩ := mem_eqR hr I r.fh rd h1.2 h4 rv h2
  refine SeqAt.in_listAt (eqR s (toP dx)) pl.isList (fun w hw => m1 w (by simpa using hw)) ⟨.bl _, H, I, rfl, ?_⟩
  rw [show its.toArray.any (eqR s (toP dx)) = its.any (eqR s (toP dx)) by simp, m2]
  rw [Bool.false_xor] at k
  exact k_val r k rfl Rp.bl
end
end L2
namespace L2
open PySem PySem.Spec PyProof.Rows
section
variable {X : Cx} {md : List Md} {P : Pt} {R : RR}
end
end L2
namespace L2
open PySem PySem.Spec PyProof.Rows
section
variable {K : Frag} {mg : Str → Option Value} {O : Store} {H F : Hp} {as : List Addr}
end
section
variable {X : Cx} {md : List Md} {P : Pt} {R : RR}
end
end L2
namespace L2
open PySem PySem.Spec PyProof.Rows
section
variable {X : Cx} {md : List Md} {P : Pt} {R : RR}
end
end L2
namespace L2
open PySem PySem.Spec PyProof.Rows PySem.W PySem.Calls
section
variable {prog : Program} {w : World} {A : Around} {E : Value → Shared → Prop} {s : Shared} {a : Addr} {vs out : List Value} {p : Array Nat}
end
section
variable {X : Cx}
theorem Rps.getD {K : Frag} {F : Hp} {as : List Addr} {ds : List D} {xs : List V} (h : Rps K F as xs ds) (i : Nat) : Rp K F as (xs.getD i V.non) (ds.getD i .non) := by
  rw [List.getD_eq_getElem?_getD, List.getD_eq_getElem?_getD]
  cases e : ds[i]? with
  | none =>
    have : xs[i]? = none := by
      rw [List.getElem?_eq_none_iff] at e ⊢
      rw [h.length]
      exact e
    rw [this]
    exact Rp.non
  | some d =>
    obtain ⟨v, hv, r⟩ := h.get' e
    rw [hv]
    exact r
end
structure Blt2 (mg : Str → Option Value) : Prop extends Blt mg where
  sorted_ : mg "sorted" = none
end L2
namespace L2
open PySem PySem.Spec PyProof.Rows
abbrev IsZipB (h : Heap) (z TI TO T : Addr) (b : Bool) : Prop :=
  h.get? z = some { cls := .type "zip", dict := none, data := .fields #[rawInt T, .bool b, .bool false, .ref TI, .ref TO], slots := #[] }
section
variable {prog : Program} {w : World} {A : Around} {E : Value → Shared → Prop} {s : Shared}
structure ZS (base : Nat) (h : Heap) (z TI TO i1 i2 l1 l2 S : Addr) (xs ys acc : Array Value) (c i : Nat) : Prop where
  zi : (IsZip h z TI TO .none ∧ ∃ a b, IsPair h TO a b) ∨ ∃ T b o, IsZipB h z TI TO T b ∧ h.get? T = some o ∧ T ∉ [z, TO, i1, i2, S]
  ti : IsPair h TI (.ref i1) (.ref i2)
  it1 : h.IsListIter i1 l1 i
  it2 : h.IsListIter i2 l2 i
  a1 : h.IsList l1 xs
  a2 : h.IsList l2 ys
  ls : h.get? S = some { cls := .type "list", dict := none, data := .seq acc c, slots := #[] }
  sz : acc.size = i
  tl : TO < h.objs.size
  nd : acc.toList.Nodup
  ts : ∀ (j : Nat) (v : Value), acc[j]? = some v → ∃ (T : Addr) (x y : Value), v = Value.ref T ∧ xs[j]? = some x ∧ ys[j]? = some y ∧ IsPair h T x y ∧ T ∉ [z, TO, i1, i2, S] ∧ base ≤ T
variable {R : PySem.Result → Shared → Prop}
end
theorem Un.more {fs ex : List Addr} {H H1 : Hp} {h h' : Heap} {a : Addr} {o : HO} (u : Un fs ex H H1 h h') (hp : h.objs.size ≤ a) (hn : H1 a = none) : Un fs ex H (upd H1 a o) h h' where
  keep := u.keep
  slot := u.slot
  free := fun b ob q n hx => by rw [upd_ne (Nat.ne_of_lt (Nat.lt_of_lt_of_le (Heap.lt_size q) hp))]; exact u.free b ob q n hx
  there := u.there
  tups := fun b xs q => by have z := u.tups b xs q; rw [upd_ne (ne_of_none z hn)]; exact z
  frzs := fun b ob v q => by have z := u.frzs b ob v q; rw [upd_ne (ne_of_none z hn)]; exact z
  tbls := fun b ps q => by obtain ⟨m, z⟩ := u.tbls b ps q; exact ⟨m, by rw [upd_ne (ne_of_none z hn)]; exact z⟩
theorem HOk.more {P : Program} {w : World} {H : Hp} {h : Heap} {a : Addr} {o : HO} (x : HOk P w H h) (hn : H a = none) (new : ObjOk P w (upd H a o) h a o) : HOk P w (upd H a o) h := fun b u e => by
  by_cases hb : b = a
  · subst hb; rw [upd_same] at e; cases e; exact new
  · rw [upd_ne hb] at e
    exact (x b u e).stay (fun c v _ q => q) (fun c q => by rw [upd_ne (ne_of_none q hn)]; exact q) fun c xs q => by rw [upd_ne (ne_of_none q hn)]; exact q
section
variable {X : Cx}
end
section
variable {X : Cx} {md : List Md} {P : Pt}
end
section
end
end L2
namespace L2
open PySem PySem.Spec PyProof.Rows PySem.W
section
variable {X : Cx} {md : List Md} {P : Pt}
end
end L2
namespace L2
open PySem PySem.Spec PyProof.Rows
section
variable {X : Cx} {md : List Md} {P : Pt} {R : RR}
variable {elts : List Expr} {x1 : Nat} {tpos : Pos} {a elt : Expr} {ifs : List Expr} {scope : Scope} {p pos pe : Pos} {m : M D} {g : MG} {t : M Bool} {e : M D}
end
end L2
namespace L2
open PySem PySem.Spec PyProof.Rows
section
variable {X : Cx} {md : List Md} {P : Pt} {R : RR} {tg : Expr}
theorem str_num (i : Int) (h : 0 ≤ i) : Str.ofString (toString i) = S ((Nat.toDigits 10 i.toNat).map Char.toNat) := by
  obtain ⟨m, rfl⟩ : ∃ m : Nat, i = (m : Int) := ⟨i.toNat, (Int.toNat_of_nonneg h).symm⟩
  rw [Int.toNat_natCast, ← PySem.W.KIN.signs_num m, S_of]
def gStr : List D → Option D
  | [.int i] => if 0 ≤ i ∧ i < 1000000000 then some (.str ((Nat.toDigits 10 i.toNat).map Char.toNat)) else none
  | _ => none
theorem cd_str : CallD X (.type "str") gStr := by
  intro pins s σ H xs us Q I rs h
  obtain ⟨O, F, as, ds, d, r, hvs, e, k⟩ := h
  unfold gStr at e
  split at e
  · rename_i i
    split at e
    · rename_i hi
      obtain ⟨v, rfl, hv⟩ := hvs.one
      cases e
      cases (hv.rp rfl).unI
      refine call_str_int pins s σ H _ us Q I rs ⟨i, rfl, shown (N := 2 ^ 1920) (by omega) (by omega) (Int.le_refl _), ?_⟩
      have z := str_num i hi.1
      refine k_val (v := .str (Str.ofString (toString i))) r k rfl ?_
      rw [z]
      exact Rp.str
    · cases e
  · cases e
end
structure Blt3 (mg : Str → Option Value) : Prop extends Blt2 mg where
  reversed_ : mg "reversed" = none
end L2
namespace L2
open PySem PySem.Spec PyProof.Rows PySem.W
section
variable {X : Cx} {md : List Md} {P : Pt} {R : RR}
def exW (X : Cx) (x : Xc) (H : Hp) : Prop := ∀ (pins : List (Addr × Obj)) (σ : St) (s : Shared) (h' : Heap) (ea C : Addr) (vs : List Value), X.mg x.cls = some (.ref C) → Inv X pins σ H s → Heap.MadeExcOf s.heap h' ea (.ref C) vs → X.xe (.ref ea) { s with heap := h' }
def FlOkX (K : Frag) (mg : Str → Option Value) (md : List Md) (P : Pt) (R : RR) (W : Xc → Hp → Prop) (D : Ends) (H F : Hp) (as : List Addr) : Fl → Prop
  | .ex x O' => ∀ H' F' as', GrS P H F as H' F' as' → RlO K mg O' H' F' as' → W x H'
  | f => FlOk K mg md P R D H F as f
def tMSX (K : Frag) (mg : Str → Option Value) (md : List Md) (P : Pt) (R : RR) (W : Xc → Hp → Prop) (m : MS) : TS := fun D σ H =>
  ∃ ρ O F as, RlO K mg O H F as ∧ SlO K md P ρ σ H F as ∧ FlOkX K mg md P R W D H F as (m ρ O)
def VSX (X : Cx) (md : List Md) (P : Pt) (R : RR) (st : Stmt) (m : MS) : Prop := PS X st (tMSX X.K X.mg md P R (exW X) m)
def VSXs (X : Cx) (md : List Md) (P : Pt) (R : RR) (st : List Stmt) (m : MS) : Prop := PSs X st (tMSX X.K X.mg md P R (exW X) m)
theorem FlOkX.gr {K : Frag} {mg : Str → Option Value} {W : Xc → Hp → Prop} {D : Ends} {H F H' F' : Hp} {as as' : List Addr} {f : Fl} (g : GrS P H F as H' F' as') (h : FlOkX K mg md P R W D H F as f) : FlOkX K mg md P R W D H' F' as' f := by
  cases f with
  | ex x O' => exact fun H2 F2 as2 g2 r2 => h H2 F2 as2 (g.trans g2) r2
  | nx ρ' O' => exact fun σ' H2 F2 as2 g2 r2 s2 => h σ' H2 F2 as2 (g.trans g2) r2 s2
  | bk ρ' O' => exact fun σ' H2 F2 as2 g2 r2 s2 => h σ' H2 F2 as2 (g.trans g2) r2 s2
  | ct ρ' O' => exact fun σ' H2 F2 as2 g2 r2 s2 => h σ' H2 F2 as2 (g.trans g2) r2 s2
  | rt d O' => exact fun v H2 F2 as2 g2 r2 s2 => h v H2 F2 as2 (g.trans g2) r2 s2
  | no => exact h
def msN (m : MS) : MS := fun ρ O => match m ρ O with
  | .ex _ _ => .no
  | f => f
theorem vx_n {st : Stmt} {m : MS} (h : VS X md P R st m) : VSX X md P R st (msN m) := h.imp fun D σ H q => by
  obtain ⟨ρ, O, F, as, r, s, k⟩ := q
  refine ⟨ρ, O, F, as, r, s, ?_⟩
  unfold msN at k
  cases e : m ρ O with
  | ex x O' => rw [e] at k; exact False.elim k
  | nx ρ' O' => rw [e] at k; exact k
  | bk ρ' O' => rw [e] at k; exact k
  | ct ρ' O' => rw [e] at k; exact k
  | rt d O' => rw [e] at k; exact k
  | no => rw [e] at k; exact k
theorem vxs_nil : VSXs X md P R [] msNil := pss_nil.imp fun D σ H q => by
  obtain ⟨ρ, O, F, as, r, s, k⟩ := q
  exact k σ H F as GrS.refl r s
theorem vxs_cons {st : Stmt} {rest : List Stmt} {a b : MS} (h1 : VSX X md P R st a) (h2 : VSXs X md P R rest b) : VSXs X md P R (st :: rest) (msSeq a b) := (pss_cons h1 h2).imp fun D σ H q => by
  obtain ⟨ρ, O, F, as, r, s, k⟩ := q
  refine ⟨ρ, O, F, as, r, s, ?_⟩
  unfold msSeq at k
  cases e : a ρ O with
  | nx ρ1 O1 =>
    rw [e] at k
    exact fun σ' H' F' as' g r' s' => ⟨ρ1, O1, F', as', r', s', FlOkX.gr g k⟩
  | ex x O' => rw [e] at k; exact k
  | bk ρ' O' => rw [e] at k; exact k
  | ct ρ' O' => rw [e] at k; exact k
  | rt d O' => rw [e] at k; exact k
  | no => rw [e] at k; exact k
def msIfX (t : M Bool) (a b : MS) : MS := fun ρ O => match t ρ O with
  | .ok v O' => if v = true then a ρ O' else b ρ O'
  | _ => .no
theorem vx_if {c : Expr} {a b : List Stmt} {pos : Pos} {t : M Bool} {ma mb : MS} (hc : TsE X md P c t) (ha : VSXs X md P R a ma) (hb : VSXs X md P R b mb) : VSX X md P R (.If c a b pos) (msIfX t ma mb) := (ps_if hc ha hb).imp fun D σ H q => by
  obtain ⟨ρ, O, F, as, r, s, k⟩ := q
  unfold msIfX at k
  cases e : t ρ O with
  | ok v O' =>
    rw [e] at k
    refine ⟨ρ, _, F, as, _, _, r, s, e, fun H1 F1 as1 g r1 => ?_⟩
    dsimp only at k
    cases v with
    | true =>
      rw [if_pos rfl] at k ⊢
      exact ⟨ρ, O', F1, as1, r1, s.step g, FlOkX.gr g.toS k⟩
    | false =>
      rw [if_neg Bool.false_ne_true] at k ⊢
      exact ⟨ρ, O', F1, as1, r1, s.step g, FlOkX.gr g.toS k⟩
  | ex x O' => rw [e] at k; exact False.elim k
  | no => rw [e] at k; exact False.elim k
end
def bmV : List Value := [.type "ValueError", .type "Exception", .type "BaseException", .type "object"]
def ExcC (K : Frag) (mg : Str → Option Value) (c : Str) : Prop := ∃ C, mg c = some (.ref C) ∧ excIn K C bmV "ValueError.__new__" = true
theorem exc_obj {K : Frag} {h : Heap} {C : Addr} {id : String} (hK : K.In h) (hq : excIn K C bmV id = true) :
    ∃ bm N nm qn bs hd sn sub ab col dd k0 k1 k2 k3 k5 mN, h.get? C = some (excClassObj nm qn C N bs bm hd sn sub ab col dd k0 k1 k2 k3 k5 id) ∧ h.Ns N mN ∧ mN "__init__" = none ∧ OwnTail h bmV bm := by
  unfold excIn at hq
  split at hq
  case h_2 => cases hq
  case h_1 dd cd sl lk =>
    split at hq
    case h_2 => cases hq
    case h_1 C1 bm k0 k1 k2 k3 nn k5 e1 e2 =>
      rw [Bool.and_eq_true, Bool.and_eq_true, Bool.and_eq_true, Bool.and_eq_true, Bool.and_eq_true] at hq
      obtain ⟨⟨⟨⟨⟨p1, p2⟩, p3⟩, p4⟩, p5⟩, p6⟩ := hq
      have q1 : C1 = C := beq_iff_eq.mp p1
      have q2 : nn = id := beq_iff_eq.mp p2
      subst q1
      subst q2
      rcases cd with ⟨nm, bs, mro, ns, qn, hd, sn, sub, ab, col, del⟩
      have e1' : mro = .ref C1 :: bm := e1
      have p3' : del = false := by
        have z : (!del) = true := p3
        cases del with
        | false => rfl
        | true => cases z
      subst e1'
      subst p3'
      rcases sl with ⟨ls⟩
      have e2' : ls = [k0, k1, k2, k3, some (.builtin nn), k5] := e2
      subst e2'
      exact ⟨bm, ns, nm, qn, bs, hd, sn, sub, ab, col, dd, k0, k1, k2, k3, k5, _, hK _ _ lk, .of_isNs (isNs_of_in hK p5), nsMap_none_of_in hK p5 (beq_iff_eq.mp p6), tail_of_in hK p4⟩
section
variable {X : Cx} {md : List Md} {P : Pt} {R : RR}
def msRaise (c : Str) : MS := fun _ O => .ex ⟨c, []⟩ O
theorem vx_raise {c : Str} {v : V} {p cpos pos : Pos} {a : Expr} (hE : ExcC X.K X.mg c) (hc : X.calm = true) (ha : PE X a (tC v)) (hg : Gl X c := by rfl) (hd : (c == ("__debug__" : Str)) = false := by decide)
    (hs1 : starEach [a] X.env = (false, eval a X.env) :: starEach [] X.env := by rfl) (hpl : (backTo cpos (starEach [a] X.env)).any (·.1) = false := by rfl) :
    VSX X md P R (.Raise (some (.Call (.Name c p) [a] [] cpos)) none pos) (msRaise c) := by
  intro pins s σ H D I q
  obtain ⟨ρ, O, F, as, r, sl, k⟩ := q
  obtain ⟨C, hC, hx⟩ := hE
  obtain ⟨bm, N, nm, qn, bs, hdd, sn, sub, ab, col, dd, k0, k1, k2, k3, k5, mN, oC, hN, hni, T⟩ := exc_obj I.ok.mod.kin hx
  refine wpAny_Raise_call_subT (C := C) (nm := nm) (q := qn) (N := N) (bs := bs) (bm := bm) (hdct := hdd) (sn := sn) (sub := sub) (ab := ab) (col := col) (dd := dd) (k0 := k0) (k1 := k1) (k2 := k2) (k3 := k3) (k5 := k5) PySem.F.excBase_ValueError (mN := mN) (T.hasType PySem.F.excBase_ValueError.hasBase) (I.ok.hd hc) hpl hni (ld_glob I hg hC ⟨rfl, ?_⟩ hd)
  have hA := pa_cons ha pa_nil hs1 cpos pins s σ H (fun vs H1 => vs.length = 1 ∧ H1 = H) I ⟨rfl, rfl⟩
  rw [hs1] at hA ⊢
  refine Calls.evalArgs_plain (thn hA fun us s1 z => ?_)
  obtain ⟨vs, H1, I1, r1, e1, e2⟩ := z
  subst e2
  refine ⟨rfl, ?_, I1.bk _ _ oC, hN.keeps I1.bk, T.keeps I1.bk, fun h' ea hm => ?_⟩
  · show us.length ≤ sizeLine
    rw [← r1.length, e1]
    decide
  · exact k H1 F as GrS.refl r pins σ s1 h' ea C _ hC I1 hm
end
theorem ObjOk.has {P : Program} {w : World} {H : Hp} {h : Heap} {a : Addr} {o : HO} (x : ObjOk P w H h a o) : ∃ u, h.get? a = some u := by
  cases o with
  | lst xs => exact let ⟨_, _, _, _, e⟩ := x; ⟨_, e⟩
  | tup xs => exact let ⟨_, _, _, _, e, _⟩ := x; ⟨_, e⟩
  | dK kvs => exact let ⟨_, _, _, _, _, _, _, e, _⟩ := x; ⟨_, e⟩
  | dT kvs => exact let ⟨_, _, _, _, _, _, _, e, _⟩ := x; ⟨_, e⟩
  | set S n => exact let ⟨_, _, _, _, e, _⟩ := x; ⟨_, e⟩
  | ins C dx fs => exact let ⟨_, _, _, e, _⟩ := x; ⟨_, e⟩
  | own y => exact let ⟨_, e⟩ := x; ⟨_, e⟩
  | xd fs => exact let ⟨_, ⟨_, _, _, e, _⟩, _⟩ := x; ⟨_, e⟩
  | rng lo hi => exact let ⟨_, _, _, e⟩ := x; ⟨_, e⟩
  | frz ob u => exact ⟨_, x.1⟩
  | tbl ps => exact ⟨_, x⟩
  | met f y => exact ⟨_, x⟩
  | ext φ => exact x.2.1
theorem HOk.only {P : Program} {w : World} {H : Hp} {h h' : Heap} (x : HOk P w H h) (k : ∀ b v u, H b = some v → h.get? b = some u → h'.get? b = some u) : HOk P w H h' := fun a o e =>
  (x a o e).stay (fun b u hb q => by
    rcases hb with rfl | hb
    · exact k _ _ u e q
    · exact k b _ u hb q) (fun _ q => q) fun _ _ q => q
theorem Un.then {fs : List Addr} {H0 H : Hp} {h0 h1 h2 : Heap} (u : Un fs [] H0 H h0 h1) (st : ∀ b o, h1.get? b = some o → b ∉ fs → (∃ o', h0.get? b = some o') → h2.get? b = some o)
    (fr : ∀ b o, h1.get? b = some o → b ∈ fs → ∃ sl, h2.get? b = some { o with slots := sl }) : Un fs [] H0 H h0 h2 where
  keep := fun b o q n nf nx => st b o (u.keep b o q n nf nx) nf ⟨o, q⟩
  slot := fun b o q n hb nx => by
    obtain ⟨sl, e⟩ := u.slot b o q n hb nx
    obtain ⟨sl2, e2⟩ := fr b _ e hb
    exact ⟨sl2, e2⟩
  free := u.free
  there := fun b o q nx => by
    obtain ⟨o', e⟩ := u.there b o q nx
    by_cases hb : b ∈ fs
    · obtain ⟨sl, e2⟩ := fr b o' e hb
      exact ⟨_, e2⟩
    · exact ⟨o', st b o' e hb ⟨o, q⟩⟩
  tups := u.tups
  frzs := u.frzs
  tbls := u.tbls
def CXE (Pr : Program) (w : World) : CXT := fun outer H s E e s' => ∃ (ea C : Addr) (H' : Hp) (B : Heap) (a0 : Value), e = .ref ea ∧ s'.os = s.os ∧ AllBare s'.gens ∧ Un (frs outer) [] H H' s.heap s'.heap ∧ HOk Pr w H' s'.heap ∧
  Heap.FlyingW B outer ea (.ref C) a0 s'.heap ∧ (∀ b u, H' b = some u → ∃ o, B.get? b = some o) ∧ (∀ b o, s.heap.get? b = some o → b ∉ frs outer → ∃ o', B.get? b = some o') ∧ E (.ref C) none H'
theorem leave_X {Pr : Program} {w : World} {K : Frag} {mg : Str → Option Value} {base : Heap} {N : List Str} {qual : Str} {scope : Scope} {f : Addr} {cd : Value} {A : Around} {outer : List Env} {s0 : Shared} {H0 : Hp} {E : XK}
    {pins : List (Addr × Obj)} {σ : St} {H : Hp} {s : Shared} {h' : Heap} {ea C : Addr} {vs : List Value} (I : Inv (cxOf (CXE Pr w) Pr w K mg base N qual scope f cd A outer s0 H0 E) pins σ H s) (hm : Heap.MadeExcOf s.heap h' ea (.ref C) vs) (hE : E (.ref C) none H) :
    (cxOf (CXE Pr w) Pr w K mg base N qual scope f cd A outer s0 H0 E).xe (.ref ea) { s with heap := h' } := by
  have stk := I.stack
  have sfr := I.stkFree
  have hfr := I.ok.frames
  have hb0 := I.base
  show wpAny (model Pr w) (A.deeper (envOfC qual scope s0.heap.objs.size f cd)) (leaving (envOfC qual scope s0.heap.objs.size f cd) (.ref ea)) (fun _ s'' => CXE Pr w outer H0 s0 E (.ref ea) s'') _ { s with heap := h' }
  refine wpAny_leaves_madeW (base := hideAll s.heap (frs (envOfC qual scope s0.heap.objs.size f cd :: outer))) (h := s.heap) hfr rfl (fun b o q => of_hideAll _ q) (funFrames_hide stk fun env he a ha => List.mem_filterMap.mpr ⟨env, he, ha⟩) hm ?_
  intro h2 t fl tup tn up
  have keepB : ∀ b o, s.heap.get? b = some o → b ∉ frs (envOfC qual scope s0.heap.objs.size f cd :: outer) → h2.get? b = some o := fun b o q n => fl.1 b o (hideAll_get _ q n)
  have notL : ∀ b o, s0.heap.get? b = some o → b ∉ frs outer → b ∉ frs (envOfC qual scope s0.heap.objs.size f cd :: outer) := fun b o q n z => by
    rcases List.mem_cons.mp (show b ∈ s0.heap.objs.size :: frs outer from z) with rfl | z
    · exact absurd (Heap.lt_size q) (Nat.lt_irrefl _)
    · exact n z
  have sub : ∀ b, b ∈ frs outer → b ∈ frs (envOfC qual scope s0.heap.objs.size f cd :: outer) := fun b z => List.mem_cons_of_mem _ z
  have tr : ∀ b u, H b = some u → ∃ o, s.heap.get? b = some o ∧ b ∉ frs (envOfC qual scope s0.heap.objs.size f cd :: outer) := fun b u e => by
    obtain ⟨o, q⟩ := (I.hok b u e).has
    exact ⟨o, q, fun z => by rw [sfr b z] at e; cases e⟩
  have frm : ∀ b o, s.heap.get? b = some o → b ∈ frs outer → ∃ sl, h2.get? b = some { o with slots := sl } := fun b o q z => by
    obtain ⟨_, o', q', nf⟩ := stk.mem (sub b z)
    rw [q] at q'
    cases q'
    exact up b o (hm.keeps b o q) nf
  refine ⟨ea, C, H, _, _, rfl, I.os, I.bare, Un.then hb0 (fun b o q n z => keepB b o q (by obtain ⟨o', z⟩ := z; exact notL b o' z n)) frm, I.hok.only fun b v u e q => keepB b u q (by obtain ⟨_, _, n⟩ := tr b v e; exact n), fl, fun b u e => ?_, fun b o q n => ?_, hE⟩
  · obtain ⟨o, q, n⟩ := tr b u e
    exact ⟨o, hideAll_get _ q n⟩
  · obtain ⟨o', q'⟩ := hb0.there b o q (fun z => nomatch z)
    exact ⟨o', hideAll_get _ q' (notL b o q n)⟩
def CanX (P : Program) (w : World) (K : Frag) (mg : Str → Option Value) (base : Heap) (x : Str) (ps : List Str) (k : Nat) (sp : Sp) : Prop :=
  ∃ f fd, mg x = some (.ref f) ∧ keepIn K (.ref f) = true ∧ Binds K fd ps [] ∧ FnOk P w K mg base (CXE P w) k f fd ps sp ∧ ∃ oc od osl, K.lookup f = some ⟨oc, od, .func fd, osl⟩
def ResOk (K : Frag) (mg : Str → Option Value) (R : RR) (H F : Hp) (as : List Addr) (Q : VK) (E : XK) : Res D → Prop
  | .ok d O' => ∀ v H' F' as', Gr H F as H' F' as' → RlO K mg O' H' F' as' → R (fun a => H a = none) H' F' as' v d → Q v H'
  | .ex x O' => ∀ C H' F' as', mg x.cls = some (.ref C) → Gr H F as H' F' as' → RlO K mg O' H' F' as' → E (.ref C) none H'
  | .no => False
def vSpX (K : Frag) (mg : Str → Option Value) (pm : List Md) (R : RR) (c : List D → Store → Res D) : Sp := fun vs H Q E =>
  ∃ ds O F as, RlO K mg O H F as ∧ ArgsR K H F as pm vs ds ∧ ResOk K mg R H F as Q E (c ds O)
section
variable {Pr : Program} {w : World} {K : Frag} {mg : Str → Option Value} {base : Heap}
theorem vdefX {x : Str} {st : Stmt} {N ps : List Str} {k : Nat} (Df : Def K mg x st) (S : FnScope N ps (defScope st))
    (hb : ∀ (kV doc pm : Value) (an : Option Addr) (cdv ct : Value) (us : List Value), us.length = ps.length → bindArgs (PySem.W.fnOf x x (defArgs st) (defBody st) (defScope st) .none kV doc pm an cdv ct) ⟨us, []⟩ = pure (ps.zip us))
    (pm lm : List Md) {R : RR} {b : MS} (hR : RRok R) (hR0 : ∀ N H F as, R N H F as .non .non) (hpl : pm.length = ps.length := by rfl) (hl : (pm ++ lm).length = N.length := by rfl) (hp : ∀ m ∈ pm, m ≠ .o := by decide)
    (body : ∀ (f : Addr) (cdv : Value) (A : Around) (outer : List Env) (s : Shared) (H : Hp) (E : XK), Room k (A.deeper (envOfC x (defScope st) s.heap.objs.size f cdv)) → ∀ P, VSXs (cxOf (CXE Pr w) Pr w K mg base N x (defScope st) f cdv A outer s H E) (pm ++ lm) P R (defBody st) b) :
    CanX Pr w K mg base x ps (k + 1) (vSpX K mg pm R (mFun N.length b)) := by
  obtain ⟨f, fd, hm, Fn⟩ := Df
  have hbi := Fn.binds hb
  have hkp := Fn.kp
  obtain ⟨oc, od, kV, doc, pmv, an, cdv, ct, osl, rfl, lk, hcd⟩ := Fn.ex
  refine ⟨f, _, hm, hkp, hbi, fn_of lk hcd S (fun vs H Q E h => ?_) fun A outer s H vs Q E hr h => ?_, oc, od, osl, lk⟩
  · obtain ⟨ds, O, F, as, r, a, _⟩ := h
    rw [a.len.1, hpl]
  · obtain ⟨ds, O, F, as, r, a, q⟩ := h
    refine ⟨_, body f cdv A outer s H E hr (Pt.all H), ?_⟩
    refine ⟨_, O, F, as, r, start_slots a hl hp, ?_⟩
    unfold mFun at q
    cases eb : b (ds.map some ++ List.replicate (N.length - ds.length) none) O with
    | rt d' O2 =>
      rw [eb] at q
      exact fun v H' F' as' g r' hv => q v H' F' as' g.gr r' (hR _ _ _ _ _ _ _ (fun c hc => Classical.not_not.mp hc) hv)
    | nx ρ O2 =>
      rw [eb] at q
      exact fun σ' H' F' as' g r' _ => q _ H' F' as' g.gr r' (hR0 _ _ _ _)
    | ex x' O2 =>
      rw [eb] at q
      exact fun H' F' as' g r' pins σ s1 h1 ea C vs1 hC I hme => leave_X I hme (q C H' F' as' hC g.gr r')
    | bk _ _ => rw [eb] at q; exact False.elim q
    | ct _ _ => rw [eb] at q; exact False.elim q
    | no => rw [eb] at q; exact False.elim q
theorem CanX.can {x : Str} {ps : List Str} {k : Nat} {pm : List Md} {R : RR} {c : List D → Store → Res D} (C : CanX Pr w K mg base x ps k (vSpX K mg pm R c)) (hl : pm.length = ps.length := by rfl) : Can Pr w K mg base x ps k (vSp K mg pm R c) := by
  obtain ⟨f, fd, hm, hk, hb, Fn, lk⟩ := C
  refine ⟨f, fd, hm, hk, hb, ⟨fun vs H Q E h => ?_, fun A outer s H args us vs Q E hr e0 hbi r h => ?_⟩, lk⟩
  · obtain ⟨ds, O, F, as, d, O', r, a, _⟩ := h
    rw [a.len.1, hl]
  · obtain ⟨ds, O, F, as, d, O', ro, a, e, q⟩ := h
    have z : vSpX K mg pm R c vs H Q fun _ _ _ => False := ⟨ds, O, F, as, ro, a, by rw [e]; exact q⟩
    refine codeAny_mono (Fn.run A outer s H args us vs Q _ hr e0 hbi r z) fun res s' hq => ?_
    cases res with
    | error ev =>
      obtain ⟨_, _, _, _, _, _, _, _, _, _, _, _, _, f0⟩ := hq
      exact f0.elim
    | ok fl => cases fl <;> exact hq
end
end L2
namespace L2
open PySem PySem.Spec PyProof.Rows PySem.W
theorem fly_un {l : List Env} {H H' : Hp} {h0 h1 h2 B : Heap} (un : Un (frs l) [] H H' h0 h1) (hB : B.StaysIn h1) (ff : h1.FunFrames B l) (old : ∀ b o, h0.get? b = some o → b ∉ frs l → ∃ o', B.get? b = some o') (hB2 : B.StaysIn h2) (up : h1.UpToSlots h2) : Un (frs l) [] H H' h0 h2 :=
  Un.then un (fun b o q n z => by
    obtain ⟨o0, z⟩ := z
    obtain ⟨o', e⟩ := old b o0 z n
    have e1 := hB b o' e
    rw [q] at e1
    cases e1
    exact hB2 b _ e) fun b o q z => by
    obtain ⟨_, o', q', nf⟩ := ff.mem z
    rw [q] at q'
    cases q'
    exact up b o q nf
theorem fly_ok {P : Program} {w : World} {H : Hp} {h1 h2 B : Heap} (hok : HOk P w H h1) (trk : ∀ b u, H b = some u → ∃ o, B.get? b = some o) (hB : B.StaysIn h1) (hB2 : B.StaysIn h2) : HOk P w H h2 := hok.only fun b v u e q => by
  obtain ⟨o, e1⟩ := trk b v e
  have e2 := hB b o e1
  rw [q] at e2
  cases e2
  exact hB2 b _ e1
def Cx.inX (X : Cx) (ea : Addr) (oe : Obj) : Cx := { X with A := X.A.mark (some (.ref ea)), calm := false, pn := (ea, oe) :: X.pn, xe := fun _ _ => False }
section
variable {X : Cx} {pins : List (Addr × Obj)} {σ : St} {H : Hp} {s : Shared} {ea : Addr} {oe : Obj}
theorem Inv.inX (I : Inv X pins σ H s) (he : s.heap.get? ea = some oe) (hn : H ea = none) (hL : ea ≠ X.env.locals) (hf : ea ∉ X.fs) (hd : ∀ v, oe.data ≠ .cell v) : Inv (X.inX ea oe) pins σ H s := by
  have ok := I.ok
  refine ⟨⟨ok.mod, ok.kind, ok.glob, ok.blt, ok.above, ok.inj, ok.has, ok.cab, (fun z => (nomatch z)), ok.frames, ok.stk, ok.exf, ok.bs, ok.bsz, ok.noex, ok.exfs, ok.funs, ok.frf⟩, I.os, I.bare, I.base, I.loc, I.cell, I.free, I.freeC, fun p hp => ?_, I.hok, I.len⟩
  rcases List.mem_append.mp hp with hp | hp
  · rcases List.mem_cons.mp hp with rfl | hp
    · exact ⟨he, hn, hL, hf, hd⟩
    · exact I.pin p (List.mem_append_left _ hp)
  · exact I.pin p (List.mem_append_right _ hp)
theorem Inv.outX (ok : X.Ok) (I : Inv (X.inX ea oe) pins σ H s) : Inv X pins σ H s :=
  ⟨ok, I.os, I.bare, I.base, I.loc, I.cell, I.free, I.freeC, fun p hp => I.pin p (by
    rcases List.mem_append.mp hp with hp | hp
    · exact List.mem_append_left _ (List.mem_cons_of_mem _ hp)
    · exact List.mem_append_right _ hp), I.hok, I.len⟩
theorem Inv.gone {h' : Heap} {m' : Str → Option Value} {t' : Nat} (I : Inv X pins σ H s) (hn : h'.Ns X.env.locals m') (hs : Heap.SameBut X.env.locals s.heap h') : Inv X pins (List.replicate X.N.length none) H { s with heap := h', toks := t' } := by
  have ne : ∀ b o, X.s₀.heap.get? b = some o → b ≠ X.env.locals := fun b o e => Nat.ne_of_lt (Nat.lt_of_lt_of_le (Heap.lt_size e) I.ok.above)
  refine ⟨I.ok, I.os, I.bare, ⟨fun b o e n hb hx => (hs.2 b (ne b o e)).trans (I.base.keep b o e n hb hx), fun b o e n hb hx => ?_, I.base.free, fun b o e hx => ?_, I.base.tups, I.base.frzs, I.base.tbls⟩, ⟨m', hn, fun i x v _ e2 _ => ?_⟩, fun y c e => ?_, I.free, I.freeC, fun p hp => ?_, I.hok.only fun b v u e q => (hs.2 b fun z => ?_).trans q, List.length_replicate⟩
  · obtain ⟨sl, e1⟩ := I.base.slot b o e n hb hx
    exact ⟨sl, (hs.2 b (ne b o e)).trans e1⟩
  · obtain ⟨o', e1⟩ := I.base.there b o e hx
    exact ⟨o', (hs.2 b (ne b o e)).trans e1⟩
  · rw [List.getElem?_replicate] at e2
    split at e2 <;> cases e2
  · obtain ⟨v, z⟩ := I.cell y c e
    exact ⟨v, z.sameBut hs (I.cne y c e)⟩
  · obtain ⟨e, n, nl, nf, d⟩ := I.pin p hp
    exact ⟨(hs.2 p.1 nl).trans e, n, nl, nf, d⟩
  · rw [z, I.free] at e
    cases e
def D2 (D : Ends) : Ends := { nx := fun _ _ => False, rt := D.rt }
theorem catch_ok {E : XK} {e : Value} {s' : Shared} {D : Ends} {T n : Str} {A : Addr} {i : Nat} {b₀ : Stmt} {suite : List Stmt} {p pos : Pos} (I : Inv X pins σ H s) (hx : CXE X.prog X.w X.stack H s E e s') (hst : X.stack = X.env :: X.outer) (hfr : X.env.frame = some X.env.locals)
    (hT : X.mg T = some (.ref A)) (hgT : Gl X T) (hTd : (T == ("__debug__" : Str)) = false) (hN : X.N.Nodup) (hi : X.N[i]? = some n) (hlo : X.env.kindOf n = some .local)
    (k : ∀ (ea C : Addr) (oe : Obj) (H' : Hp), E (.ref C) none H' → oe.cls = .ref C → (∃ ws, oe.data = .fields ws) → exmOne X.K (.ref C) (.ref A) = some true ∧ ∃ t, PSs (X.inX ea oe) (b₀ :: suite) t ∧ t (D2 D) (σ.set i (some (.ref ea))) H') :
    wpAny (model X.prog X.w) X.A (noteFrame e X.env) (fun _ s₂ => wpAny (model X.prog X.w) X.A (setFlight e none) (fun _ s₃ => wpAny (model X.prog X.w) X.A (handleBy e X.env [.ExceptHandler (some (.Name T p)) (some n) (b₀ :: suite) pos]) (SP X pins D) X.xe s₃) X.xe s₂) X.xe s' := by
  obtain ⟨ea, C, H', B, a0, rfl, hos, hbare, un, hok, fl, trk, old, hE⟩ := hx
  have fl' := fl
  rw [hst] at fl'
  have frames := I.ok.frames
  rw [hst] at frames
  have hn : H' ea = none := by
    cases q : H' ea with
    | none => rfl
    | some u =>
      obtain ⟨o, z⟩ := trk ea u q
      rw [fl.2.1] at z
      cases z
  have inv : ∀ h2 : Heap, B.StaysIn h2 → s'.heap.UpToSlots h2 → Inv X pins σ H' { s' with heap := h2 } := fun h2 hb up => I.call' (s' := { s' with heap := h2 }) (ch := []) hos (fly_un un fl.1 fl.2.2.1 old hb up) (fly_ok hok trk fl.1 hb) hbare fun _ z => nomatch z
  have apart : ∀ (h2 : Heap) (oe : Obj) (ws : Array Value), h2.FunFrames B (X.env :: X.outer) → h2.get? ea = some oe → oe.data = .fields ws → ea ≠ X.env.locals ∧ ea ∉ X.fs := fun h2 oe ws ff he hd => by
    have go : ∀ b, b ∈ (X.env :: X.outer).filterMap (·.frame) → ea ≠ b := fun b hb z => by
      obtain ⟨_, o, ho, nf⟩ := ff.mem hb
      rw [← z, he] at ho
      cases ho
      exact nf ws hd
    refine ⟨go _ ?_, fun z => go ea ?_ rfl⟩
    · rw [List.filterMap_cons, hfr]
      exact List.mem_cons_self
    · rw [List.filterMap_cons, hfr]
      exact List.mem_cons_of_mem _ z
  refine wpAny_looks_onW frames hfr fl' fun h1 held up1 => ?_
  refine wpAny_landsW held fun h2 fl2 up2 => ?_
  have I2 := inv h2 fl2.1 (up1.trans up2)
  obtain ⟨oe, ws, hoe, hoec, hoed, _⟩ := fl2.first
  obtain ⟨nl, nf⟩ := apart h2 oe ws fl2.2.2.1 hoe hoed
  have I2x := I2.inX hoe hn nl nf (fun v z => by rw [hoed] at z; cases z)
  obtain ⟨hex, _⟩ := k ea C oe H' hE hoec ⟨ws, hoed⟩
  refine wpAny_handleBy_cons (codeAny_handlers_test ?_) (by intro q; cases q)
  refine ld_glob (X := X.inX ea oe) I2x hgT hT ?_ hTd
  refine (exm_one I2.kIn (hoec ▸ (Looks.ld hoe).andThen .now) hex).at ?_
  refine codeAny_handlers_suite_as ?_
  refine lands_againW fl2 fun h3 fl3 up3 => ?_
  have I3 := inv h3 fl3.1 ((up1.trans up2).trans up3)
  obtain ⟨oe3, ws3, hoe3, hoec3, hoed3, _⟩ := fl3.first
  obtain ⟨nl3, nf3⟩ := apart h3 oe3 ws3 fl3.2.2.1 hoe3 hoed3
  have I3x := I3.inX hoe3 hn nl3 nf3 (fun v z => by rw [hoed3] at z; cases z)
  obtain ⟨_, t, hs, ht⟩ := k ea C oe3 H' hE hoec3 ⟨ws3, hoed3⟩
  refine store_ok (X := X.inX ea oe3) (v := .ref ea) I3x hN hi (.inl hlo) rfl (fun s4 I4 => ?_) (.inr hlo)
  refine wpAny_mono (hs pins s4 _ H' (D2 D) I4 ht) (fun f s5 sp => ?_) (fun _ _ z => z.elim)
  cases f with
  | ret u =>
    obtain ⟨v, σ5, H5, I5, r5, q5⟩ := sp
    have J := I5.outX I.ok
    obtain ⟨m, hm, _⟩ := J.loc
    refine wpAny_nameGoes hlo hm (by rw [I.ok.kind]; rfl) fun h6 m6 hm6 hs6 => ?_
    exact ⟨v, _, H5, J.gone hm6 hs6, r5, q5⟩
  | next => obtain ⟨_, _, _, q⟩ := sp; exact q.elim
  | brk => obtain ⟨_, _, _, q⟩ := sp; exact q.elim
  | cont => obtain ⟨_, _, _, q⟩ := sp; exact q.elim
end
end L2
namespace L2
open PySem PySem.Spec PyProof.Rows PySem.W PySem.Calls PySem.Builtin PySem.Builtin.ObjectAttr PySem.Builtin.Getset_descriptor
section
variable {prog : Program} {w : World} {A : Around} {E : Value → Shared → Prop} {K : Frag} {a C : Addr} {o : Obj} {h : Heap} {g : Array GenState} {d : Drawn} {t : Nat} {os : OsState}
theorem exc_cget {R : Result → Shared → Prop} {tp : Value} (X : K.In h) (hx : h.get? a = some o) (hc : o.cls = .ref C) (hm : mroIn K C (.type "object") = some true) (hq : R (.ok (.ret (.ref C))) ⟨h, g, d, t, os⟩) :
    codeAny (model prog w) A (.call (.builtin "getset_descriptor.__get__") ⟨[.builtin "object.__class__", .ref a, tp], []⟩) R ⟨h, g, d, t, os⟩ := by
  have L0 : Looks (model prog w) h (typeOf (.ref a)) (.ref C) := hc ▸ (Looks.ld hx).andThen .now
  have L1 := looks_mroIn (M := model prog w) X hm
  refine codeAny_call_builtin KF.slot_gs.plain KF.entry_gs (KF.slot_gs.check _ _ _ _ _ _ _ _ KF.type_class (KF.args_gs _ _ _) ?_); unfold Builtin.«getset_descriptor.__get__» descrGet
  rw [dga_obj]; refine wpAny_bind (wpAny_pure ?_)
  unfold descrGetter descrCheckInstance descrNameAndClass isInstance; simp only [KF.owner_class]
  repeat lk
  refine ⟨Code.quiet_builtin _ (by decide +kernel), codeAny_builtin KF.entry_class ?_⟩; unfold Builtin.«object.__class__» shownTypeOf
  repeat lk
  exact hq
structure ExcF (K : Frag) (C : Addr) : Prop where
  ga : findIn K (.ref C) "__getattribute__" = some (some (.builtin "BaseException.__getattribute__"))
  na : findIn K (.ref C) "__getattr__" = some none
  ca : findIn K (.ref C) "__class__" = some (some (.builtin "object.__class__"))
  sp : specialIn K (.builtin "object.__class__") "__get__" = some (some (.builtin "getset_descriptor.__get__"))
  tk : takesIn K (.builtin "object.__class__") = some true
  ob : mroIn K C (.type "object") = some true
  be : mroIn K C (.type "BaseException") = some true
  cl : (clsIn K C).isSome = true
theorem exc_body {tk : Tok} {Q : Fin → Shared → Prop} (F0 : ExcF K C) (X : K.In h) (hx : h.get? a = some o) (hc : o.cls = .ref C) (hq : Q (.done (.ret (.ref C))) ⟨h, g, d, t, os⟩) :
    wpAny (model prog w) A (Builtin.«object.__getattribute__» ⟨[.ref a, .str "__class__" tk], []⟩) Q E ⟨h, g, d, t, os⟩ := by
  have L0 : Looks (model prog w) h (typeOf (.ref a)) (.ref C) := hc ▸ (Looks.ld hx).andThen .now
  have L1 := looks_findIn (M := model prog w) X F0.ca
  have L2 := looks_specialIn (M := model prog w) X F0.sp
  have L3 := looks_takesIn (M := model prog w) X F0.tk
  unfold Builtin.«object.__getattribute__»
  refine wpAny_bind (wpAny_of_eq (a := (Value.ref a, [Value.str "__class__" tk])) rfl ?_)
  dsimp only
  refine wpAny_bind (wpAny_pure ?_)
  refine wpAny_bind (L0.at ?_)
  unfold find getOf
  refine wpAny_bind (wpAny_bind (L1.at (wpAny_bind (L2.at (wpAny_bind ?_)))))
  unfold dataDescriptor?
  refine wpAny_bind (L3.at ?_)
  rw [if_pos rfl]
  refine wpAny_pure ?_
  dsimp only
  refine wpAny_bind (wpAny_rule (wpAny_pure ?_))
  dsimp only
  unfold bindTo
  dsimp only
  refine wpAny_bind (wpAny_holding (wpAny_call (exc_cget X hx hc F0.ob ?_)))
  exact wpAny_pure hq
theorem exc_check {nv : Value} {Q : Unit → Shared → Prop} (F0 : ExcF K C) (X : K.In h) (hx : h.get? a = some o) (hc : o.cls = .ref C) (hq : Q () ⟨h, g, d, t, os⟩) : wpAny (model prog w) A (checkBuiltinCall "BaseException.__getattribute__" ⟨[.ref a, nv], []⟩) Q E ⟨h, g, d, t, os⟩ := by
  have L4 : Looks (model prog w) h (isInstance (.ref a) (.type "BaseException")) true := (show Looks (model prog w) h (typeOf (.ref a)) (.ref C) from hc ▸ (Looks.ld hx).andThen .now).andThen (looks_mroIn X F0.be)
  have e1 : builtinKind "BaseException.__getattribute__" = some .slot := by decide +kernel
  have e2 : splitId "BaseException.__getattribute__" = some ("BaseException", "__getattribute__") := by decide +kernel
  have e3 := PySem.F.args_bexc_ga (.ref a) nv
  simp only [checkBuiltinCall, e1, e2]
  refine wpAny_bind (L4.at ?_)
  rw [if_neg (by decide)]
  exact wpAny_of_eq (a := ()) e3 hq
theorem exc_class {Q : Option Value → Shared → Prop} (F0 : ExcF K C) (X : K.In h) (hx : h.get? a = some o) (hc : o.cls = .ref C) (hq : Q (some (.ref C)) ⟨h, g, d, t + 1, os⟩) :
    wpAny (model prog w) A (getAttr? (.ref a) "__class__") Q E ⟨h, g, d, t, os⟩ := by
  have L0 : Looks (model prog w) h (typeOf (.ref a)) (.ref C) := hc ▸ (Looks.ld hx).andThen .now
  have L1 := looks_findIn (M := model prog w) X F0.ga
  have L2 := looks_findIn (M := model prog w) X F0.na
  have L4 : Looks (model prog w) h (isInstance (.ref a) (.type "BaseException")) true := L0.andThen (looks_mroIn X F0.be)
  have bnd := PySem.F.attrBase_ValueError.ga.bind (.ref a)
  have hne : (onTheHeap (Value.ref C) && Value.builtin "BaseException.__getattribute__" == Value.builtin "object.__getattribute__") = false := by rw [show (Value.builtin "BaseException.__getattribute__" == Value.builtin "object.__getattribute__") = false by decide +kernel, Bool.and_false]
  unfold getAttr? getAttrBy? getAttrBy
  refine wpAny_bind (wpAny_mkText ?_)
  refine wpAny_bind (wpAny_attempt (wpAny_holding ?_))
  refine wpAny_bind (L0.at ?_)
  refine wpAny_bind (L1.at ?_)
  dsimp only
  rw [if_neg (by rw [hne]; exact Bool.false_ne_true)]
  unfold getAttrByItsOwn
  refine wpAny_bind ?_
  unfold hookBefore
  rw [if_pos (show onTheHeap (Value.ref C) = true from rfl)]
  refine L2.at ?_
  refine wpAny_bind (wpAny_attempt (wpAny_holding ?_))
  unfold callGetattribute
  rw [if_neg (by decide)]
  unfold boundAndCalled
  refine wpAny_bind (wpAny_of_eq bnd ?_)
  refine wpAny_call (codeAny_call_builtin PySem.F.attrBase_ValueError.ga.plain PySem.F.entry_bexc_ga (exc_check F0 X hx hc (exc_body F0 X hx hc ?_)))
  show wpAny (model prog w) A (handedOut (.ref C)) _ _ _
  exact handed_on rfl (wpAny_pure hq)
def HX (a C : Addr) (h : Heap) : Prop := ∃ o, h.get? a = some o ∧ o.cls = .ref C
theorem kitx_exc (F0 : ExcF K C) : KitX K (.ref a) (.ref C) (HX a C) where
  ty := fun _ _ _ p => by
    obtain ⟨o, q1, q2⟩ := p
    exact q2 ▸ (Looks.ld q1).andThen .now
  it := fun _ _ X _ => by
    have z := F0.cl
    unfold clsIn at z
    split at z
    case h_1 c1 d1 cd1 sl1 lk1 => exact fun A1 Q1 E1 s1 k1 q1 => by unfold isType loadHead; exact wpAny_bind (wpAny_loadPart (k1 _ _ (X _ _ lk1)) (wpAny_pure q1))
    case h_2 => cases z
  ne := fun h tp dd its n sl X p => by
    cases e : (Value.ref C == Value.ref tp) with
    | false => rfl
    | true =>
      have e' : C = tp := Value.ref.inj (beq_iff_eq.mp e)
      subst e'
      have z := F0.cl
      unfold clsIn at z
      split at z
      case h_1 =>
        have y := X _ _ ‹_›
        rw [p] at y
        cases y
      case h_2 => cases z
  ca := fun {_ _ _ _ _ s} X p k => by
    obtain ⟨o, q1, q2⟩ := p
    obtain ⟨h, g, d, t, os⟩ := s
    exact exc_class F0 X q1 q2 k
end
end L2
namespace L2
open PySem PySem.Spec PyProof.Rows PySem.W
section
variable {X : Cx} {ea C : Addr} {oe : Obj}
def clsV : V → Option Value
  | .ref a => some (.ref a)
  | .ty n => some (.type n)
  | _ => none
theorem clsV_rel {v : V} {u c : Value} (h : RelV v u) (e : clsV v = some c) : u = c := by
  cases v <;> cases e <;> exact h
def clsVs : List V → Option (List Value)
  | [] => some []
  | v :: vs => (clsV v).bind fun c => (clsVs vs).map (c :: ·)
theorem clsVs_rel : ∀ {vs : List V} {us cs : List Value}, Vals vs us → clsVs vs = some cs → us = cs
  | [], _, _, .nil, e => by cases e; rfl
  | v :: vs, _, _, .cons r t, e => by
    obtain ⟨c, e1, e2⟩ := Option.bind_eq_some_iff.mp e
    obtain ⟨l, e3, rfl⟩ := Option.map_eq_some_iff.mp e2
    rw [clsV_rel r e1, clsVs_rel t e3]
theorem call_exc (hc : oe.cls = .ref C) (F0 : ExcF X.K C) : CallR (X.inX ea oe) (.builtin "isinstance") (fun xs H Q => ∃ b, Q (.bl b) H ∧
    ((∃ v c, xs = [.ref ea, v] ∧ clsV v = some c ∧ kitOne X.K (.ref C) c = some b) ∨ ∃ tp ys cs, xs = [.ref ea, .ref tp] ∧ H tp = some (.tup ys) ∧ clsVs ys = some cs ∧ kitAny X.K (.ref C) cs = some b)) := by
  intro pins s σ H xs us Q I r h
  obtain ⟨b, q, h⟩ := h
  have he : s.heap.get? ea = some oe := (I.pin (ea, oe) List.mem_cons_self).1
  have nb : Value.ref ea ≠ .builtin "__main__.__loader__#opaque" := fun z => nomatch z
  rcases h with ⟨v, c, rfl, ev, ek⟩ | ⟨tp, ys, cs, rfl, et, ev, ek⟩
  · obtain ⟨u1, u2, rfl, r1, r2⟩ := vals2 r
    cases r1
    rw [clsV_rel r2 ev]
    exact kia_one (kitx_exc F0) I.kIn ⟨oe, he, hc⟩ ek nb fun tk => ⟨.bl b, H, I.tok tk, rfl, q⟩
  · obtain ⟨u1, u2, rfl, r1, r2⟩ := vals2 r
    cases r1
    cases r2
    obtain ⟨_, its, rv, ot, ho, hcl, n, hda⟩ := I.hok tp _ et
    have ei := clsVs_rel rv ev
    subst ei
    obtain ⟨c0, d0, da0, sl0⟩ := ot
    dsimp only at hcl hda
    subst hcl hda
    exact kia_tup (kitx_exc F0) I.kIn ⟨oe, he, hc⟩ ho ek nb fun tk => ⟨.bl b, H, I.tok tk, rfl, q⟩
end
end L2
namespace L2
open PySem PySem.Spec PyProof.Rows PySem.W
section
variable {X : Cx} {md : List Md} {P : Pt} {R : RR}
def msTry (c : List D → Store → Res D) (ma : M (List D)) (h : Xc → Option D) : MS := fun ρ O => match ma ρ O with
  | .ok ds O1 => match c ds O1 with
    | .ok _ O2 => .nx ρ O2
    | .ex x O2 => match h x with
      | some d => .rt d O2
      | none => .no
    | .no => .no
  | _ => .no
def SuiteR (Y : Cx) (i : Nat) (ea : Addr) (v : V) (sts : List Stmt) : Prop := ∃ t, PSs Y sts t ∧ ∀ (D : Ends) (σ : St) (H : Hp), σ[i]? = some (some (.ref ea)) → (∀ H', (∀ K mg O F as, RlO K mg O H F as → RlO K mg O H' F as ∧ Gr H F as H' F as) → D.rt v H') → t D σ H
def tryE (X : Cx) (c : List D → Store → Res D) (ds : List D) (O1 : Store) (hd : Xc → Option D) (H F : Hp) (as : List Addr) : XK := fun cv _ H2 => ∃ C F2 as2 x d O2, cv = .ref C ∧ X.mg x.cls = some (.ref C) ∧ c ds O1 = .ex x O2 ∧ hd x = some d ∧ Gr H F as H2 F2 as2 ∧ RlO X.K X.mg O2 H2 F2 as2
theorem vs_try {f T n : Str} {ps : List Str} {k i : Nat} {a : Expr} {as : List Expr} {A : Addr} {pm : List Md} {R' : RR} {c : List D → Store → Res D} {ma : M (List D)} {hd : Xc → Option D} {b₀ : Stmt} {suite : List Stmt} {p1 p2 p3 p4 p5 p6 : Pos}
    (Cn : CanX X.prog X.w X.K X.mg X.base f ps k (vSpX X.K X.mg pm R' c)) (hr : Room k X.A) (ha : ∀ E, AE (X.wish E) md P pm (a :: as) ma) (hT : X.mg T = some (.ref A)) (hN : X.N.Nodup) (hi : X.N[i]? = some n)
    (su : ∀ x d, hd x = some d → ∃ v, (∀ N H F as, R N H F as v d) ∧ ∀ C, X.mg x.cls = some (.ref C) → exmOne X.K (.ref C) (.ref A) = some true ∧ ∀ ea oe, oe.cls = .ref C → SuiteR (X.inX ea oe) i ea v (b₀ :: suite))
    (hst : X.stack = X.env :: X.outer := by rfl) (hfr : X.env.frame = some X.env.locals := by rfl) (hg : Gl X f := by rfl) (hgT : Gl X T := by rfl) (hfd : (f == ("__debug__" : Str)) = false := by decide) (hTd : (T == ("__debug__" : Str)) = false := by decide) (hlo : X.env.kindOf n = some .local := by rfl)
    (hs : starEach (a :: as) X.env = (false, eval a X.env) :: starEach as X.env := by rfl) (hpl : (backTo p2 (starEach as X.env)).any (·.1) = false := by rfl) (hsw : swapsWith (.Call (.Name f p1) (a :: as) [] p2) none p3.line X.env = pure false := by rfl) :
    VS X md P R (.Try [.Expr (.Call (.Name f p1) (a :: as) [] p2) p3] [.ExceptHandler (some (.Name T p4)) (some n) (b₀ :: suite) p5] [] [] p6) (msTry c ma hd) := by
  intro pins s σ H D I q
  obtain ⟨ρ, O, F, as', r, sl, kk⟩ := q
  obtain ⟨fa, fd, hm, hk, hb, Fn, _⟩ := Cn
  refine wpAny_Try_except ?_
  let W : Value → Shared → Prop := fun e s1 => wpAny (model X.prog X.w) X.A (noteFrame e X.env) (fun _ s₂ => wpAny (model X.prog X.w) X.A (setFlight e none) (fun _ s₃ => wpAny (model X.prog X.w) X.A (handleBy e X.env [.ExceptHandler (some (.Name T p4)) (some n) (b₀ :: suite) p5]) (SP X pins D) X.xe s₃) X.xe s₂) X.xe s1
  have I1 : Inv (X.wish W) pins σ H s := I.wish W
  unfold msTry at kk
  cases em : ma ρ O with
  | ex x O' => rw [em] at kk; exact False.elim kk
  | no => rw [em] at kk; exact False.elim kk
  | ok ds O1 =>
    rw [em] at kk
    dsimp only at kk
    have ev : wpAny (model X.prog X.w) X.A (eval (.Call (.Name f p1) (a :: as) [] p2) X.env) (fun v s2 => ∃ H2, Inv X pins σ H2 s2 ∧ D.nx σ H2) W s := by
      refine wpAny_Call_Name_kw (ld_glob I hg hm ?_ hfd)
      refine PySem.W.callWith_K (h₀ := X.base) I.ok.mod.kin hk (thn (ha W p2 pins s σ H (fun vs H1 => ∃ F1 as1, Gr H F as' H1 F1 as1 ∧ RlO X.K X.mg O1 H1 F1 as1 ∧ ArgsR X.K H1 F1 as1 pm vs ds) I1 ⟨ρ, O, F, as', ds, O1, r, sl, em, fun vs H1 F1 as1 g1 r1 h1 => ⟨F1, as1, g1, r1, h1⟩⟩) fun us s1 z => ?_) hs hpl
      obtain ⟨vs, H1, J1, rv, F1, as1, g1, r1, h1⟩ := z
      have J := J1.unwish
      refine ⟨J.kIn, ?_⟩
      have sp : vSpX X.K X.mg pm R' c vs H1 (fun _ H2 => D.nx σ H2) (tryE X c ds O1 hd H F as') := by
        refine ⟨ds, O1, F1, as1, r1, h1, ?_⟩
        cases ec : c ds O1 with
        | ok d O2 =>
          rw [ec] at kk
          exact fun v H2 F2 as2 g2 r2 _ => kk σ H2 F2 as2 (g1.trans g2).toS r2 (sl.step (g1.trans g2))
        | ex x O2 =>
          rw [ec] at kk
          dsimp only at kk
          cases eh : hd x with
          | none => rw [eh] at kk; exact False.elim kk
          | some d => exact fun C H2 F2 as2 hC g2 r2 => ⟨C, F2, as2, x, d, O2, rfl, hC, ec, eh, g1.trans g2, r2⟩
        | no => rw [ec] at kk; exact False.elim kk
      have hl := Fn.len _ _ _ _ sp
      have bi := hb s1 us J.kIn (by rw [List.append_nil, ← rv.length]; exact hl)
      rw [List.append_nil] at bi
      refine wpAny_call (codeAny_mono (Fn.run X.A X.stack s1 H1 ⟨us, []⟩ us vs _ _ hr J.env0 bi rv sp) fun res s2 hq => ?_)
      cases res with
      | error e =>
        have hq' : CXE X.prog X.w X.stack H1 s1 (tryE X c ds O1 hd H F as') e s2 := hq
        refine catch_ok (D := D) J hq' hst hfr hT hgT hTd hN hi hlo fun ea C oe H2 hE hc _ => ?_
        obtain ⟨C', F2, as2, x, d, O2, e1, hC, ec, eh, g2, r2⟩ := hE
        cases e1
        obtain ⟨v, hv, hx⟩ := su x d eh
        obtain ⟨h1, h2⟩ := hx C hC
        obtain ⟨t, t1, t2⟩ := h2 ea oe hc
        refine ⟨h1, t, t1, t2 _ _ H2 ?_ fun H3 gr => ?_⟩
        · rw [List.getElem?_set_self (by rw [J.len]; exact (List.getElem?_eq_some_iff.mp hi).1)]
        · rw [ec] at kk
          dsimp only at kk
          rw [eh] at kk
          obtain ⟨r3, g3⟩ := gr _ _ _ _ _ r2
          exact kk v H3 F2 as2 (g2.trans g3).toS r3 (hv _ _ _ _)
      | ok fl =>
        cases fl with
        | ret u =>
          obtain ⟨v, H2, I2, _, q2⟩ := J.after hq
          exact ⟨H2, I2, q2⟩
        | next => exact False.elim hq
        | brk => exact False.elim hq
        | cont => exact False.elim hq
    refine wpAny_execs_cons (thn (wpAny_Expr_any (Q := fun fl s1 => fl = .next ∧ ∃ H2, Inv X pins σ H2 s1 ∧ D.nx σ H2) (thn ev fun v s1 z => ⟨rfl, z⟩) I.quiet hsw) fun fl s1 z => ?_)
    obtain ⟨rfl, H2, I2, q2⟩ := z
    exact wpAny_execs_nil (wpAny_execs_nil ⟨σ, H2, I2, q2⟩)
end
end L2
namespace L2
open PySem PySem.Spec PyProof.Rows PySem.W
section
variable {X : Cx} {ea C : Addr} {oe : Obj} {i : Nat} {b : Bool} {n : Str} {p p1 pos : Pos}
def tIs (i : Nat) (ea : Addr) (b : Bool) : TE := fun σ H Q => σ[i]? = some (some (.ref ea)) ∧ Q (.bl b) H
def tIsT (i : Nat) (ea : Addr) (b : Bool) : TE := fun σ H Q => σ[i]? = some (some (.ref ea)) ∧ ∀ tp xs, H tp = none → Q (.bl b) (upd H tp (.tup xs))
theorem pe_isE {eT : Expr} {v : V} {c : Value} (hc : oe.cls = .ref C) (F0 : ExcF X.K C) (hm : X.mg "isinstance" = none) (hT : PE (X.inX ea oe) eT (tC v)) (hv : clsV v = some c) (hk : kitOne X.K (.ref C) c = some b) (hN : X.N[i]? = some n) (hvi : Vis X.env.scope n)
    (hg : Gl X "isinstance" := by rfl) (hd : (n == ("__debug__" : Str)) = false := by decide) (hcd : (n == ("__classdict__" : Str)) = false := by decide)
    (hs1 : starEach [.Name n p1, eT] X.env = (false, eval (.Name n p1) X.env) :: starEach [eT] X.env := by exact starC rfl) (hs2 : starEach [eT] X.env = (false, eval eT X.env) :: starEach [] X.env := by exact starC rfl) (hpl : (backTo pos (starEach [eT] X.env)).any (·.1) = false := by exact starAny rfl) :
    PE (X.inX ea oe) (.Call (.Name "isinstance" p) [.Name n p1, eT] [] pos) (tIs i ea b) :=
  (pe_callB (X := X.inX ea oe) (call_exc hc F0) hg hm (by decide +kernel) (pa_cons (pe_var (i := i) hN hvi hd hcd) (pa_cons hT pa_nil hs2) hs1) (by decide) (by decide) hs1 hpl).imp fun σ H Q q => ⟨.ref ea, q.1, b, q.2, .inl ⟨v, c, rfl, hv, hk⟩⟩
theorem pe_isT {es : List Expr} {x1 : Nat} {tpos : Pos} {vs : List V} {cs : List Value} (hc : oe.cls = .ref C) (F0 : ExcF X.K C) (hm : X.mg "isinstance" = none) (hT : PA (X.inX ea oe) es (fun _ H Q => Q vs H)) (hl : vs.length ≤ sizeLine) (hv : clsVs vs = some cs) (hk : kitAny X.K (.ref C) cs = some b) (hN : X.N[i]? = some n) (hvi : Vis X.env.scope n)
    (hg : Gl X "isinstance" := by rfl) (hd : (n == ("__debug__" : Str)) = false := by decide) (hcd : (n == ("__classdict__" : Str)) = false := by decide)
    (hs1 : starEach [.Name n p1, .Tuple es x1 tpos] X.env = (false, eval (.Name n p1) X.env) :: starEach [.Tuple es x1 tpos] X.env := by exact starC rfl) (hs2 : starEach [.Tuple es x1 tpos] X.env = (false, eval (.Tuple es x1 tpos) X.env) :: starEach [] X.env := by exact starC rfl) (hpl : (backTo pos (starEach [.Tuple es x1 tpos] X.env)).any (·.1) = false := by exact starAny rfl) :
    PE (X.inX ea oe) (.Call (.Name "isinstance" p) [.Name n p1, .Tuple es x1 tpos] [] pos) (tIsT i ea b) :=
  (pe_callB (X := X.inX ea oe) (call_exc hc F0) hg hm (by decide +kernel) (pa_cons (pe_var (i := i) hN hvi hd hcd) (pa_cons (pe_tup hT) pa_nil hs2) hs1) (by decide) (by decide) hs1 hpl).imp fun σ H Q q => ⟨.ref ea, q.1, hl, fun tp ht => ⟨b, q.2 tp vs ht, .inr ⟨tp, vs, cs, rfl, upd_same, hv, hk⟩⟩⟩
def NamesV (X : Cx) : List Expr → List V → Prop
  | [], vs => vs = []
  | e :: es, vs => ∃ v r, vs = v :: r ∧ (∀ Y : Cx, Y.env = X.env → Y.mg = X.mg → PE Y e (tC v)) ∧ starEach (e :: es) X.env = (false, eval e X.env) :: starEach es X.env ∧ NamesV X es r
theorem pa_names : ∀ {es : List Expr} {vs : List V}, NamesV X es vs → PA (X.inX ea oe) es (fun _ H Q => Q vs H)
  | [], vs, h => by
    have h' : vs = [] := h
    subst h'
    exact pa_nil
  | e :: es, vs, h => by
    obtain ⟨v, r, rfl, h1, h2, h3⟩ := h
    exact pa_cons (X := X.inX ea oe) (h1 (X.inX ea oe) rfl rfl) (pa_names h3) h2
theorem suite_a {es : List Expr} {x1 : Nat} {e1 e2 : Expr} {vs : List V} {v1 v2 : V} {cs : List Value} {c1 c2 : Value} {q1 q2 q3 q4 q5 q6 q7 q8 q9 qa qb qc qd qe qf : Pos} {j : Nat} (hc : oe.cls = .ref C) (F0 : ExcF X.K C) (hm : X.mg "isinstance" = none)
    (hT : NamesV X es vs) (hl : vs.length ≤ sizeLine) (hv : clsVs vs = some cs) (hk : kitAny X.K (.ref C) cs = some false)
    (h1 : PE (X.inX ea oe) e1 (tC v1)) (w1 : clsV v1 = some c1) (k1 : kitOne X.K (.ref C) c1 = some true) (h2 : PE (X.inX ea oe) e2 (tC v2)) (w2 : clsV v2 = some c2) (k2 : kitOne X.K (.ref C) c2 = some true)
    (hN : X.N[i]? = some n) (hvi : Vis X.env.scope n) (hg : Gl X "isinstance" := by rfl) (hd : (n == ("__debug__" : Str)) = false := by decide) (hcd : (n == ("__classdict__" : Str)) = false := by decide)
    (st1 : starEach [.Name n q2, .Tuple es x1 q3] X.env = (false, eval (.Name n q2) X.env) :: starEach [.Tuple es x1 q3] X.env := by exact starC rfl) (st2 : starEach [.Tuple es x1 q3] X.env = (false, eval (.Tuple es x1 q3) X.env) :: starEach [] X.env := by exact starC rfl) (st3 : (backTo q4 (starEach [.Tuple es x1 q3] X.env)).any (·.1) = false := by exact starAny rfl)
    (su1 : starEach [.Name n q8, e1] X.env = (false, eval (.Name n q8) X.env) :: starEach [e1] X.env := by exact starC rfl) (su2 : starEach [e1] X.env = (false, eval e1 X.env) :: starEach [] X.env := by exact starC rfl) (su3 : (backTo q9 (starEach [e1] X.env)).any (·.1) = false := by exact starAny rfl)
    (sv1 : starEach [.Name n qb, e2] X.env = (false, eval (.Name n qb) X.env) :: starEach [e2] X.env := by exact starC rfl) (sv2 : starEach [e2] X.env = (false, eval e2 X.env) :: starEach [] X.env := by exact starC rfl) (sv3 : (backTo qc (starEach [e2] X.env)).any (·.1) = false := by exact starAny rfl) :
    SuiteR (X.inX ea oe) i ea (.bl true) [.If (.Call (.Name "isinstance" q1) [.Name n q2, .Tuple es x1 q3] [] q4) [.Return (some (.Constant (.bool false) j q5)) q6] [] qd, .Return (some (.BoolOp .And [.Call (.Name "isinstance" q7) [.Name n q8, e1] [] q9, .Call (.Name "isinstance" qa) [.Name n qb, e2] [] qc] qe)) qf] := by
  refine ⟨_, pss_cons (ps_if (pt_val (pe_isT hc F0 hm (pa_names hT) hl hv hk hN hvi hg hd hcd st1 st2 st3)) (pss_one (ps_ret pe_bl)) pss_nil) (pss_one (ps_ret (pe_and (pe_isE hc F0 hm h1 w1 k1 hN hvi hg hd hcd su1 su2 su3) (pe_one (pe_isE hc F0 hm h2 w2 k2 hN hvi hg hd hcd sv1 sv2 sv3))))), fun D σ H hσ k => ?_⟩
  refine ⟨hσ, fun tp xs ht => ⟨false, rfl, ?_⟩⟩
  dsimp only
  rw [if_neg Bool.false_ne_true]
  refine ⟨hσ, true, rfl, ?_⟩
  rw [if_pos rfl]
  exact ⟨hσ, k _ fun K mg O F as r => ⟨r.lay ht, Gr.lay ht⟩⟩
end
end L2
namespace L2
open PySem PySem.Spec PyProof.Rows
section
variable {X : Cx}
def cutS (l n : List Nat) : List (List Nat) := (Txt.split (S l) (S n)).map fun x => x.cps.toList
theorem strV_vals : ∀ ws : List (Str × Tok), Vals ((ws.map (·.1)).map V.str) (strValues ws)
  | [] => .nil
  | a :: ws => .cons ⟨a.2, rfl⟩ (strV_vals ws)
theorem cutS_V (l n : List Nat) : (cutS l n).map (fun y => V.str (S y)) = (Txt.split (S l) (S n)).map V.str := by
  unfold cutS
  rw [List.map_map]
  exact List.map_congr_left fun x _ => congrArg V.str (S_of x)
def rSplit : V → List V → Hp → VK → Prop := fun x vs H Q => ∃ l n : List Nat, x = .str (S l) ∧ vs = [.str (S n)] ∧ 1 ≤ n.length ∧ l.length ≤ 1000000 ∧ ∀ p, H p = none → Q (.ref p) (upd H p (.lst ((cutS l n).map fun y => V.str (S y))))
theorem mt_split : MtR X "str.split" rSplit := by
  intro pins s σ H x xs v us Q I rx rs h
  obtain ⟨l, n, rfl, rfl, hn, hl, q⟩ := h
  obtain ⟨a, rfl⟩ := rx
  obtain ⟨u, rfl, ru⟩ := vals1 rs
  obtain ⟨b, rfl⟩ := ru
  have hs : sizeLine = 16777216 := sizeLine_eq
  have hw := split_weight (S l) (S n) (by rw [S_length]; exact hn)
  rw [S_length] at hw
  have hy0 : ((S n).length == 0) = false := by rw [S_length]; cases n with
    | nil => cases hn
    | cons => rfl
  have fin : ∀ (ws : List (Str × Tok)) (k : Tok), ws.map (·.1) = Txt.split (S l) (S n) →
      EP X pins σ Q (.ref s.heap.objs.size) { s with heap := s.heap.push { cls := .type "list", data := .seq (strValues ws).toArray }, toks := k } := fun ws k e =>
    ⟨.ref s.heap.objs.size, _, I.laid (t' := k) (fun b o z => Heap.get?_push_of_some _ z) (Nat.le_refl _)
      (show ObjOk X.prog X.w _ _ _ (.lst ((cutS l n).map fun y => V.str (S y))) from ⟨by rw [cutS_V, List.length_map]; omega, _, 0, by rw [cutS_V, ← e]; exact strV_vals ws, Heap.get?_push_size _ rfl⟩), rfl, q _ (I.hok.fresh (Nat.le_refl _))⟩
  cases h1 : (decide ((S l).length < (S n).length) || decide (Builtin.Str.strKind (S l) < Builtin.Str.strKind (S n)))
  · cases hf : (Builtin.Str.occurrences (S l) (S n) 0 (S l).length ((S l).length + 1)).isEmpty
    · have hle : (Builtin.Str.partsBetween (S l) (Builtin.Str.occurrences (S l) (S n) 0 (S l).length ((S l).length + 1)) (S n).length).length ≤ sizeLine := by
        have e1 := StrLaws.occ_length_le (S l) (S n) 0 (S l).length ((S l).length + 1)
        rw [S_length] at e1
        rw [length_partsBetween, S_length]
        omega
      refine call_meets F.slot_str_split (typeIs_str _ _ _) F.entry_str_split (F.args_str_split_2 _ _) (meets_str_split_sep _ _ a b h1 hy0 hf (by rw [S_length]; omega) hle) ?_
      show wants _ _ _ { s with toks := _, heap := s.heap.push { cls := .type "list", data := .seq (strsFrom s.toks _).toArray } }
      rw [strsFrom_eq]
      exact fin _ _ ((numbered_texts _ _).trans ((if_neg (ne_true_of_eq_false h1)).trans (if_neg (ne_true_of_eq_false hf))).symm)
    · exact call_meets F.slot_str_split (typeIs_str _ _ _) F.entry_str_split (F.args_str_split_2 _ _) (meets_str_split_not_found _ _ a b h1 hy0 hf) (fin [(S l, a)] s.toks ((if_neg (ne_true_of_eq_false h1)).trans (if_pos hf)).symm)
  · exact call_meets F.slot_str_split (typeIs_str _ _ _) F.entry_str_split (F.args_str_split_2 _ _) (meets_str_split_cannot_occur _ _ a b h1) (fin [(S l, a)] s.toks (if_pos h1).symm)
def rFind : V → List V → Hp → VK → Prop := fun x vs H Q => ∃ l n : List Nat, x = .str (S l) ∧ vs = [.str (S n)] ∧ Q (.int (Txt.find (S l) (S n))) H
theorem mt_find : MtR X "str.find" rFind := by
  intro pins s σ H x xs v us Q I rx rs h
  obtain ⟨l, n, rfl, rfl, q⟩ := h
  obtain ⟨a, rfl⟩ := rx
  obtain ⟨u, rfl, ru⟩ := vals1 rs
  obtain ⟨b, rfl⟩ := ru
  exact SC.find ⟨.int _, H, I.tok _, ⟨_, rfl⟩, q⟩
def glueB (g : List Nat) : List (List Nat) → List Nat
  | [] => []
  | [a] => a
  | a :: b :: r => a ++ g ++ glueB g (b :: r)
theorem glueB_S (g : List Nat) : ∀ ls : List (List Nat), Txt.join (S g) (ls.map S) = S (glueB g ls) := by
  intro ls
  show Builtin.Str.glued _ _ = _
  rw [StrLaws.glued_eq_join]
  induction ls with
  | nil => rfl
  | cons a r ih =>
    cases r with
    | nil => rfl
    | cons b r =>
      show S a ++ S g ++ Str.join (S g) ((b :: r).map S) = S (a ++ g ++ glueB g (b :: r))
      rw [ih, S_append, S_append]
def rJoinG (K : PySem.W.Frag) : V → List V → Hp → VK → Prop := fun x vs H Q => ∃ (p : Addr) (g : List Nat) (ls : List (List Nat)), x = .str (S g) ∧ vs = [.ref p] ∧ SqL K H p (ls.map fun l => V.str (S l)) ∧ (ls.map List.length).sum + ls.length * g.length ≤ 1000000 ∧ Q (.str (S (glueB g ls))) H
theorem mt_joinG (K : PySem.W.Frag) (hK : X.K = K := by rfl) : MtR X "str.join" (rJoinG K) := by
  subst hK
  intro pins s σ H x xs v us Q I rx rs h
  obtain ⟨p, g, ls, rfl, rfl, hq, hz, q⟩ := h
  obtain ⟨t, rfl⟩ := rx
  obtain ⟨u, rfl, ru⟩ := vals1 rs
  cases ru
  obtain ⟨its, rv, pl, _⟩ := I.list hq
  refine join_list pl.isList (ys := ls.map S) (by simpa using strsAre_of rv) ?_ fun a k => ⟨.str (S (glueB g ls)), H, I.tok k, ⟨a, by rw [glueB_S]⟩, q⟩
  have e : ((ls.map S).map (·.length)).sum = (ls.map List.length).sum := by
    rw [List.map_map]
    exact congrArg List.sum (List.map_congr_left fun l _ => S_length l)
  rw [e, S_length, List.length_map]
  omega
variable {md : List Md} {P : Pt}
def mSplit (mo m : M D) : M D := fun ρ O => (mo ρ O).bind fun a O1 => (m ρ O1).bind fun b O2 => match a, b with
  | .str l, .str n => if 1 ≤ n.length ∧ l.length ≤ 1000000 then .ok (.lst ((cutS l n).map D.str)) O2 else .no
  | _, _ => .no
def mFind (mo m : M D) : M D := fun ρ O => (mo ρ O).bind fun a O1 => (m ρ O1).bind fun b O2 => match a, b with
  | .str l, .str n => .ok (.int (Txt.find (S l) (S n))) O2
  | _, _ => .no
def mGlue (g : List Nat) (m : M D) : M D := fun ρ O => (m ρ O).bind fun d O1 => match deref O1 d with
  | .lst ds => match strsD ds with
    | some ls => if (ls.map List.length).sum + ls.length * g.length ≤ 1000000 then .ok (.str (glueB g ls)) O1 else .no
    | none => .no
  | _ => .no
theorem Rps.strL {K : Frag} {F : Hp} {as : List Addr} : ∀ ls : List (List Nat), Rps K F as (ls.map fun y => V.str (S y)) (ls.map D.str)
  | [] => Rps.nil
  | l :: ls => Rps.cons Rp.str (Rps.strL ls)
theorem oe_split {o e : Expr} {apos cpos : Pos} {mo m : M D} (ho : VE X md P o mo) (h : VE X md P e m)
    (hbase : attributeBase o "split" X.env (eval o X.env) = eval o X.env := by rfl) (hfew : ((backTo cpos (starEach [e] X.env)).all (fun x => !x.1) && (backToKw cpos (keywordEach [] X.env)).all (fun x => x.1.isSome) && decide ([e].length + ([] : List Keyword).length + (if ([] : List Keyword).isEmpty then 0 else 1) < 30)) = true := by rfl)
    (hline : (apos.endLine == cpos.line) = true := by rfl) (hs : starEach [e] X.env = (false, eval e X.env) :: starEach [] X.env := by exact starC rfl) (hplain : (backTo cpos (starEach [] X.env)).any (·.1) = false := by exact starAny rfl) :
    OE X md P (.Call (.Attribute o "split" apos) [e] [] cpos) (mSplit mo m) :=
  (pe_bm PySem.F.plainAttrs_str PySem.F.slot_str_split PySem.F.type_str_split mt_split ho (pa_cons h pa_nil hs) hbase hfew hline hs hplain).imp fun σ H Q q => by
    obtain ⟨ρ, O, F, as, d, O', r, s, e, k⟩ := q
    obtain ⟨a, O1, e1, e⟩ := Res.bind_ok e
    obtain ⟨b, O2, e2, e⟩ := Res.bind_ok e
    split at e
    · split at e
      · rename_i hz
        cases e
        refine ⟨ρ, _, F, as, _, _, r, s, e1, fun v H1 F1 as1 g1 r1 hv => ?_⟩
        cases Rp.unS hv
        refine ⟨rfl, ρ, _, F1, as1, _, _, r1, s.step g1, e2, fun u H2 F2 as2 g2 r2 hu => ?_⟩
        cases Rp.unS hu
        refine ⟨_, _, rfl, rfl, hz.1, hz.2, fun p hp => ?_⟩
        have g12 := g1.trans g2
        exact k_lst r2 (fun v' H' F' g' r' hw => k v' H' F' as2 (g12.trans g') r' (rO_ok _ _ _ _ _ _ _ (fun a ha => g12.dm a ha) hw)) hp (Rps.strL _)
      · cases e
    · cases e
theorem oe_find {o e : Expr} {apos cpos : Pos} {mo m : M D} (ho : VE X md P o mo) (h : VE X md P e m)
    (hbase : attributeBase o "find" X.env (eval o X.env) = eval o X.env := by rfl) (hfew : ((backTo cpos (starEach [e] X.env)).all (fun x => !x.1) && (backToKw cpos (keywordEach [] X.env)).all (fun x => x.1.isSome) && decide ([e].length + ([] : List Keyword).length + (if ([] : List Keyword).isEmpty then 0 else 1) < 30)) = true := by rfl)
    (hline : (apos.endLine == cpos.line) = true := by rfl) (hs : starEach [e] X.env = (false, eval e X.env) :: starEach [] X.env := by exact starC rfl) (hplain : (backTo cpos (starEach [] X.env)).any (·.1) = false := by exact starAny rfl) :
    OE X md P (.Call (.Attribute o "find" apos) [e] [] cpos) (mFind mo m) :=
  (pe_bm PySem.F.plainAttrs_str PySem.F.slot_str_find PySem.F.type_str_find mt_find ho (pa_cons h pa_nil hs) hbase hfew hline hs hplain).imp fun σ H Q q => by
    obtain ⟨ρ, O, F, as, d, O', r, s, e, k⟩ := q
    obtain ⟨a, O1, e1, e⟩ := Res.bind_ok e
    obtain ⟨b, O2, e2, e⟩ := Res.bind_ok e
    split at e
    · cases e
      refine ⟨ρ, _, F, as, _, _, r, s, e1, fun v H1 F1 as1 g1 r1 hv => ?_⟩
      cases Rp.unS hv
      refine ⟨rfl, ρ, _, F1, as1, _, _, r1, s.step g1, e2, fun u H2 F2 as2 g2 r2 hu => ?_⟩
      cases Rp.unS hu
      exact ⟨_, _, rfl, rfl, k _ H2 F2 as2 (g1.trans g2) r2 (.inl ⟨rfl, Rp.int⟩)⟩
    · cases e
theorem oe_glue {e : Expr} {j : Nat} {p apos cpos : Pos} {m : M D} (g : List Nat) (h : SE X md P e m) {x : Str} (hx : x = S g := by decide +kernel)
    (hbase : attributeBase (.Constant (.str x) j p) "join" X.env (eval (.Constant (.str x) j p) X.env) = eval (.Constant (.str x) j p) X.env := by rfl) (hfew : ((backTo cpos (starEach [e] X.env)).all (fun x => !x.1) && (backToKw cpos (keywordEach [] X.env)).all (fun x => x.1.isSome) && decide ([e].length + ([] : List Keyword).length + (if ([] : List Keyword).isEmpty then 0 else 1) < 30)) = true := by rfl)
    (hline : (apos.endLine == cpos.line) = true := by rfl) (hs : starEach [e] X.env = (false, eval e X.env) :: starEach [] X.env := by exact starC rfl) (hplain : (backTo cpos (starEach [] X.env)).any (·.1) = false := by exact starAny rfl) :
    OE X md P (.Call (.Attribute (.Constant (.str x) j p) "join" apos) [e] [] cpos) (mGlue g m) :=
  (pe_bm PySem.F.plainAttrs_str PySem.F.slot_str_join PySem.F.type_str_join (mt_joinG X.K) (pe_str (x := x)) (pa_cons h pa_nil hs) hbase hfew hline hs hplain).imp fun σ H Q q => by
    obtain ⟨ρ, O, F, as, d, O', r, s, e, k⟩ := q
    obtain ⟨y, O1, e1, e⟩ := Res.bind_ok e
    cases ed : deref O1 y with
    | lst ds =>
      rw [ed] at e
      dsimp only at e
      cases es : strsD ds with
      | none => rw [es] at e; cases e
      | some ls =>
        rw [es] at e
        dsimp only at e
        split at e
        · rename_i hz
          cases e
          refine ⟨rfl, ρ, _, F, as, _, _, r, s, e1, fun v H1 F1 as1 g1 r1 hv => ?_⟩
          have q := Sv.lk hv r1
          rw [ed] at q
          obtain ⟨a, xs, rfl, h1, h2⟩ := q.list r1.fh
          refine ⟨a, g, ls, by rw [hx], rfl, ?_, hz, k _ H1 F1 as1 g1 r1 (.inl ⟨rfl, Rp.str⟩)⟩
          rw [← h2.strs es]
          exact h1.sq
        · cases e
    | _ => rw [ed] at e; cases e
end
end L2
namespace L2
open PySem PySem.Spec PyProof.Rows PySem.W
def NmsA (mg : Str → Option Value) : List Str → List Addr → Prop
  | [], as => as = []
  | n :: ns, as => ∃ a r, as = a :: r ∧ mg n = some (.ref a) ∧ NmsA mg ns r
def Refus (K : Frag) (mg : Str → Option Value) (T c : Str) (ns : List Str) : Prop := ∃ (A C : Addr) (as : List Addr), mg T = some (.ref A) ∧ mg c = some (.ref C) ∧ exmOne K (.ref C) (.ref A) = some true ∧ ExcF K C ∧ NmsA mg ns as ∧
  kitAny K (.ref C) (as.map Value.ref) = some false ∧ kitOne K (.ref C) (.ref C) = some true ∧ kitOne K (.ref C) (.type "ValueError") = some true ∧ mg "ValueError" = none
theorem clsVs_refs : ∀ as : List Addr, clsVs (as.map V.ref) = some (as.map Value.ref)
  | [] => rfl
  | a :: as => by
    show clsVs (V.ref a :: as.map V.ref) = _
    unfold clsVs
    rw [clsVs_refs as]
    rfl
theorem NmsA.len {mg : Str → Option Value} : ∀ {ns : List Str} {as : List Addr}, NmsA mg ns as → as.length = ns.length
  | [], as, h => by
    have h' : as = [] := h
    rw [h']
    rfl
  | n :: ns, as, h => by
    obtain ⟨a, r, rfl, _, h2⟩ := h
    rw [List.length_cons, h2.len, List.length_cons]
section
variable {X : Cx} {md : List Md} {P : Pt} {R : RR}
theorem nmv_nil : ∀ as, NmsA X.mg [] as → NamesV X [] (as.map V.ref) := fun as h => by
  have h' : as = [] := h
  subst h'
  exact rfl
theorem nmv_cons {n : Str} {ns : List Str} {es : List Expr} {p : Pos} (h : ∀ as, NmsA X.mg ns as → NamesV X es (as.map V.ref)) (hg : Gl X n := by rfl) (hd : (n == ("__debug__" : Str)) = false := by decide) (hs : starEach (.Name n p :: es) X.env = (false, eval (.Name n p) X.env) :: starEach es X.env := by rfl) :
    ∀ as, NmsA X.mg (n :: ns) as → NamesV X (.Name n p :: es) (as.map V.ref) := fun as z => by
  obtain ⟨a, r, rfl, hm, z⟩ := z
  exact ⟨.ref a, _, rfl, fun Y e1 e2 => pe_glob (show Y.env.kindOf n = _ by rw [e1]; exact hg) (by rw [e2]; exact hm) rfl hd, hs, h r z⟩
def hdC (c : Str) (x : Xc) : Option D := if x.cls = c then some (.bl true) else none
theorem vs_refus {f T n c : Str} {ns ps : List Str} {k i : Nat} {a : Expr} {as es : List Expr} {pm : List Md} {R' : RR} {cc : List D → Store → Res D} {ma : M (List D)} {x1 j : Nat} {p1 p2 p3 p4 p5 p6 pv pc : Pos} {q1 q2 q3 q4 q5 q6 q7 q8 q9 qa qb qc qd qe qf : Pos}
    (hR : ∀ N H F as, R N H F as (.bl true) (.bl true)) (RF : Refus X.K X.mg T c ns) (Cn : CanX X.prog X.w X.K X.mg X.base f ps k (vSpX X.K X.mg pm R' cc)) (hr : Room k X.A) (hN : X.N.Nodup) (hm : X.mg "isinstance" = none) (ha : ∀ E, AE (X.wish E) md P pm (a :: as) ma)
    (hNV : ∀ as, NmsA X.mg ns as → NamesV X es (as.map V.ref)) (hi : X.N[i]? = some n := by rfl) (hvi : Vis X.env.scope n := by first | exact Or.inl rfl | exact Or.inr (Or.inl rfl))
    (hst : X.stack = X.env :: X.outer := by rfl) (hfr : X.env.frame = some X.env.locals := by rfl) (hg : Gl X f := by rfl) (hgT : Gl X T := by rfl) (hgc : Gl X c := by rfl) (hgv : Gl X "ValueError" := by rfl) (hgi : Gl X "isinstance" := by rfl) (hfd : (f == ("__debug__" : Str)) = false := by decide) (hTd : (T == ("__debug__" : Str)) = false := by decide) (hcd : (c == ("__debug__" : Str)) = false := by decide) (hnd : (n == ("__debug__" : Str)) = false := by decide) (hncd : (n == ("__classdict__" : Str)) = false := by decide) (hlo : X.env.kindOf n = some .local := by rfl) (hns : ns.length ≤ 1000 := by decide)
    (hs : starEach (a :: as) X.env = (false, eval a X.env) :: starEach as X.env := by rfl) (hpl : (backTo p2 (starEach as X.env)).any (·.1) = false := by rfl) (hsw : swapsWith (.Call (.Name f p1) (a :: as) [] p2) none p3.line X.env = pure false := by rfl)
    (st3 : (backTo q4 (starEach [.Tuple es x1 q3] X.env)).any (·.1) = false := by exact starAny rfl) (su3 : (backTo q9 (starEach [.Name c pc] X.env)).any (·.1) = false := by exact starAny rfl) (sv3 : (backTo qc (starEach [.Name "ValueError" pv] X.env)).any (·.1) = false := by exact starAny rfl)
    (st1 : starEach [.Name n q2, .Tuple es x1 q3] X.env = (false, eval (.Name n q2) X.env) :: starEach [.Tuple es x1 q3] X.env := by exact starC rfl) (st2 : starEach [.Tuple es x1 q3] X.env = (false, eval (.Tuple es x1 q3) X.env) :: starEach [] X.env := by exact starC rfl)
    (su1 : starEach [.Name n q8, .Name c pc] X.env = (false, eval (.Name n q8) X.env) :: starEach [.Name c pc] X.env := by exact starC rfl) (su2 : starEach [.Name c pc] X.env = (false, eval (.Name c pc) X.env) :: starEach [] X.env := by exact starC rfl)
    (sv1 : starEach [.Name n qb, .Name "ValueError" pv] X.env = (false, eval (.Name n qb) X.env) :: starEach [.Name "ValueError" pv] X.env := by exact starC rfl) (sv2 : starEach [.Name "ValueError" pv] X.env = (false, eval (.Name "ValueError" pv) X.env) :: starEach [] X.env := by exact starC rfl) :
    VS X md P R (.Try [.Expr (.Call (.Name f p1) (a :: as) [] p2) p3] [.ExceptHandler (some (.Name T p4)) (some n) [.If (.Call (.Name "isinstance" q1) [.Name n q2, .Tuple es x1 q3] [] q4) [.Return (some (.Constant (.bool false) j q5)) q6] [] qd, .Return (some (.BoolOp .And [.Call (.Name "isinstance" q7) [.Name n q8, .Name c pc] [] q9, .Call (.Name "isinstance" qa) [.Name n qb, .Name "ValueError" pv] [] qc] qe)) qf] p5] [] [] p6) (msTry cc ma (hdC c)) := by
  obtain ⟨A, C, la, hT, hC, hx, F0, hn, ka, k1, k2, hv⟩ := RF
  refine vs_try Cn hr ha hT hN hi (fun x d e => ?_) hst hfr hg hgT hfd hTd hlo hs hpl hsw
  unfold hdC at e
  split at e
  · rename_i ex
    cases e
    refine ⟨.bl true, hR, fun C' hC' => ?_⟩
    rw [ex, hC] at hC'
    cases hC'
    refine ⟨hx, fun ea oe hc => ?_⟩
    have hsz : sizeLine = 16777216 := sizeLine_eq
    refine suite_a hc F0 hm (hNV la hn) (by rw [List.length_map, hn.len]; omega) (clsVs_refs la) ka (v1 := .ref C) (c1 := .ref C) (v2 := .ty "ValueError") (c2 := .type "ValueError") ?_ rfl k1 ?_ rfl k2 hi hvi hgi hnd hncd st1 st2 st3 su1 su2 su3 sv1 sv2 sv3
    · exact pe_glob (X := X.inX ea oe) hgc hC rfl hcd
    · exact pe_bltn (X := X.inX ea oe) hgv hv (by decide +kernel) rfl
  · cases e
end
end L2
namespace L2
open PySem PySem.Spec PyProof.Rows
def ofO (o : Option D) (O : Store) : Res D := match o with
  | some d => .ok d O
  | none => .no
@[simp] theorem ofO_some {d : D} {O : Store} : ofO (some d) O = .ok d O := rfl
@[simp] theorem bind_ok' {α β : Type} {a : α} {O : Store} {f : α → Store → Res β} : (Res.ok a O).bind f = f a O := rfl
@[simp] theorem deref_non {O : Store} : deref O .non = .non := rfl
@[simp] theorem deref_bl {O : Store} {b : Bool} : deref O (.bl b) = .bl b := rfl
@[simp] theorem deref_int {O : Store} {b : Int} : deref O (.int b) = .int b := rfl
@[simp] theorem deref_str {O : Store} {b : List Nat} : deref O (.str b) = .str b := rfl
@[simp] theorem deref_lst {O : Store} {b : List D} : deref O (.lst b) = .lst b := rfl
@[simp] theorem deref_tup {O : Store} {b : List D} : deref O (.tup b) = .tup b := rfl
@[simp] theorem deref_dic {O : Store} {a b : List D} : deref O (.dic a b) = .dic a b := rfl
@[simp] theorem m_var {i : Nat} {ρ : DEnv} {O : Store} : mVar i ρ O = (match ρ[i]? with | some (some d) => .ok d O | _ => .no) := rfl
@[simp] theorem m_c {d : D} {ρ : DEnv} {O : Store} : mC d ρ O = .ok d O := rfl
@[simp] theorem m_bin {g : D → D → Option D} {a b : M D} {ρ : DEnv} {O : Store} : mBin g a b ρ O = (a ρ O).bind fun x O1 => (b ρ O1).bind fun y O2 => ofO (g (deref O2 x) (deref O2 y)) O2 := rfl
def gF (r : Res D) : Res D := match r with
  | .ok d O' => if notL d = true then .ok d O' else .no
  | r => r
@[simp] theorem m_g {m : M D} {ρ : DEnv} {O : Store} : mG m ρ O = gF (m ρ O) := rfl
@[simp] theorem gF_int {i : Int} {O : Store} : gF (.ok (.int i) O) = .ok (.int i) O := rfl
@[simp] theorem gF_str {i : List Nat} {O : Store} : gF (.ok (.str i) O) = .ok (.str i) O := rfl
@[simp] theorem gF_bl {i : Bool} {O : Store} : gF (.ok (.bl i) O) = .ok (.bl i) O := rfl
@[simp] theorem gF_non {O : Store} : gF (.ok .non O) = .ok .non O := rfl
@[simp] theorem gF_tup {l : List D} {O : Store} : gF (.ok (.tup l) O) = .ok (.tup l) O := rfl
@[simp] theorem gF_ob {n : Nat} {O : Store} : gF (.ok (.ob n) O) = .ok (.ob n) O := rfl
def chF (o : Option D) (O : Store) (f : Unit → Res D) : Res D := match o with
  | some (.bl true) => f ()
  | some (.bl false) => .ok (.bl false) O
  | _ => .no
@[simp] theorem chF_b {b : Bool} {O : Store} {f : Unit → Res D} : chF (some (.bl b)) O f = if b = true then f () else .ok (.bl false) O := by cases b <;> rfl
@[simp] theorem m_chain {g g' : D → D → Option D} {a b c : M D} {ρ : DEnv} {O : Store} : mChain g g' a b c ρ O = (a ρ O).bind fun x O1 => (b ρ O1).bind fun y O2 => chF (g (deref O2 x) (deref O2 y)) O2 fun _ => (c ρ O2).bind fun z O3 => ofO (g' (deref O3 y) (deref O3 z)) O3 := by
  unfold mChain
  congr 1
@[simp] theorem m_isN {m : M D} {ρ : DEnv} {O : Store} : mIsN m ρ O = (m ρ O).bind fun d O1 => .ok (.bl (isNon d)) O1 := rfl
@[simp] theorem m_notN {m : M D} {ρ : DEnv} {O : Store} : mNotN m ρ O = (m ρ O).bind fun d O1 => .ok (.bl (!isNon d)) O1 := rfl
@[simp] theorem isNon_non : isNon .non = true := rfl
@[simp] theorem isNon_lst {l : List D} : isNon (.lst l) = false := rfl
@[simp] theorem isNon_tup {l : List D} : isNon (.tup l) = false := rfl
@[simp] theorem isNon_str {l : List Nat} : isNon (.str l) = false := rfl
@[simp] theorem isNon_int {l : Int} : isNon (.int l) = false := rfl
@[simp] theorem isNon_ob {l : Nat} : isNon (.ob l) = false := rfl
def teF (d : D) (O : Store) : Res Bool := match d with
  | .bl b => .ok b O
  | _ => .no
@[simp] theorem teF_bl {b : Bool} {O : Store} : teF (.bl b) O = .ok b O := rfl
@[simp] theorem m_test {m : M D} {ρ : DEnv} {O : Store} : mTest m ρ O = (m ρ O).bind teF := rfl
def ofB (o : Option Bool) (O : Store) : Res Bool := match o with
  | some d => .ok d O
  | none => .no
@[simp] theorem ofB_some {d : Bool} {O : Store} : ofB (some d) O = .ok d O := rfl
@[simp] theorem m_tru {m : M D} {ρ : DEnv} {O : Store} : mTru m ρ O = (m ρ O).bind fun d O1 => ofB (truD (deref O1 d)) O1 := rfl
@[simp] theorem truD_bl {b : Bool} : truD (.bl b) = some b := rfl
@[simp] theorem truD_lst {b : List D} : truD (.lst b) = some (!b.isEmpty) := rfl
@[simp] theorem mt_and {a b : M Bool} {ρ : DEnv} {O : Store} : mtAnd a b ρ O = (a ρ O).bind fun c O1 => if c = true then b ρ O1 else .ok false O1 := rfl
@[simp] theorem mt_or {a b : M Bool} {ρ : DEnv} {O : Store} : mtOr a b ρ O = (a ρ O).bind fun c O1 => if c = true then .ok true O1 else b ρ O1 := rfl
@[simp] theorem mt_not {a : M Bool} {ρ : DEnv} {O : Store} : mtNot a ρ O = (a ρ O).bind fun c O1 => .ok (!c) O1 := rfl
def anF (d : D) (O : Store) (f : Unit → Res D) : Res D := match d with
  | .bl true => f ()
  | .bl false => .ok (.bl false) O
  | _ => .no
def orF (d : D) (O : Store) (f : Unit → Res D) : Res D := match d with
  | .bl true => .ok (.bl true) O
  | .bl false => f ()
  | _ => .no
@[simp] theorem anF_b {b : Bool} {O : Store} {f : Unit → Res D} : anF (.bl b) O f = if b = true then f () else .ok (.bl false) O := by cases b <;> rfl
@[simp] theorem orF_b {b : Bool} {O : Store} {f : Unit → Res D} : orF (.bl b) O f = if b = true then .ok (.bl true) O else f () := by cases b <;> rfl
@[simp] theorem m_andV {a b : M D} {ρ : DEnv} {O : Store} : mAndV a b ρ O = (a ρ O).bind fun d O1 => anF d O1 fun _ => b ρ O1 := by
  unfold mAndV
  congr 1
@[simp] theorem m_orV {a b : M D} {ρ : DEnv} {O : Store} : mOrV a b ρ O = (a ρ O).bind fun d O1 => orF d O1 fun _ => b ρ O1 := by
  unfold mOrV
  congr 1
def noF (d : D) (O : Store) : Res D := match d with
  | .bl b => .ok (.bl (!b)) O
  | _ => .no
@[simp] theorem noF_b {b : Bool} {O : Store} : noF (.bl b) O = .ok (.bl (!b)) O := rfl
@[simp] theorem m_notV {a : M D} {ρ : DEnv} {O : Store} : mNotV a ρ O = (a ρ O).bind noF := rfl
@[simp] theorem m_if {t : M Bool} {a b : M D} {ρ : DEnv} {O : Store} : mIf t a b ρ O = (t ρ O).bind fun c O1 => if c = true then a ρ O1 else b ρ O1 := rfl
@[simp] theorem ma_nil {ρ : DEnv} {O : Store} : maNil ρ O = .ok [] O := rfl
@[simp] theorem ma_cons {m : M D} {r : M (List D)} {ρ : DEnv} {O : Store} : maCons m r ρ O = (m ρ O).bind fun d O1 => (r ρ O1).bind fun ds O2 => .ok (d :: ds) O2 := rfl
@[simp] theorem m_lst {r : M (List D)} {ρ : DEnv} {O : Store} : mLst r ρ O = (r ρ O).bind fun ds O1 => if ds.length ≤ 1000000 then .ok (.lst ds) O1 else .no := rfl
@[simp] theorem m_tup {r : M (List D)} {ρ : DEnv} {O : Store} : mTup r ρ O = (r ρ O).bind fun ds O1 => if ds.length ≤ 1000000 then .ok (.tup ds) O1 else .no := rfl
@[simp] theorem m_call {c : List D → Store → Res D} {ma : M (List D)} {ρ : DEnv} {O : Store} : mCall c ma ρ O = (ma ρ O).bind fun ds O1 => c ds O1 := rfl
@[simp] theorem m_callB {g : List D → Option D} {ma : M (List D)} {ρ : DEnv} {O : Store} : mCallB g ma ρ O = (ma ρ O).bind fun ds O1 => ofO (g (ds.map (deref O1))) O1 := rfl
@[simp] theorem m_un {g : D → Option D} {ma : M D} {ρ : DEnv} {O : Store} : mUn g ma ρ O = (ma ρ O).bind fun d O1 => ofO (g (deref O1 d)) O1 := rfl
def isF (n : String) (o : Option String) (O : Store) : Res D := match o with
  | some t => .ok (.bl (isTy t n)) O
  | none => .no
@[simp] theorem isF_some {n t : String} {O : Store} : isF n (some t) O = .ok (.bl (isTy t n)) O := rfl
@[simp] theorem m_isi {n : String} {m : M D} {ρ : DEnv} {O : Store} : mIsi n m ρ O = (m ρ O).bind fun d O1 => isF n (tyD (deref O1 d)) O1 := rfl
@[simp] theorem tyD_non : tyD .non = some "NoneType" := rfl
@[simp] theorem tyD_bl {b : Bool} : tyD (.bl b) = some "bool" := rfl
@[simp] theorem tyD_int {b : Int} : tyD (.int b) = some "int" := rfl
@[simp] theorem tyD_str {b : List Nat} : tyD (.str b) = some "str" := rfl
@[simp] theorem tyD_lst {b : List D} : tyD (.lst b) = some "list" := rfl
@[simp] theorem tyD_tup {b : List D} : tyD (.tup b) = some "tuple" := rfl
@[simp] theorem tyD_dic {a b : List D} : tyD (.dic a b) = some "dict" := rfl
@[simp] theorem mo_n {ρ : DEnv} {O : Store} : moN ρ O = .ok none O := rfl
def osF (d : D) (O : Store) : Res (Option Int) := match d with
  | .int i => .ok (some i) O
  | _ => .no
@[simp] theorem osF_i {i : Int} {O : Store} : osF (.int i) O = .ok (some i) O := rfl
@[simp] theorem mo_s {m : M D} {ρ : DEnv} {O : Store} : moS m ρ O = (m ρ O).bind osF := rfl
@[simp] theorem m_sl {m : M D} {lo hi : M (Option Int)} {ρ : DEnv} {O : Store} : mSl m lo hi ρ O = (m ρ O).bind fun d O1 => (lo ρ O1).bind fun l O2 => (hi ρ O2).bind fun h O3 => ofO (gSl (deref O3 d) l h) O3 := rfl
@[simp] theorem gSl_str {l : List Nat} {lo hi : Option Int} : gSl (.str l) lo hi = if l.length ≤ 16777216 then some (.str (cutN l lo hi)) else none := rfl
@[simp] theorem gSl_lst {l : List D} {lo hi : Option Int} : gSl (.lst l) lo hi = some (.lst (cutN l lo hi)) := rfl
@[simp] theorem gSl_tup {l : List D} {lo hi : Option Int} : gSl (.tup l) lo hi = some (.tup (cutN l lo hi)) := rfl
def seqF (f : Fl) (b : MS) : Fl := match f with
  | .nx ρ' O' => b ρ' O'
  | r => r
@[simp] theorem ms_seq {a b : MS} {ρ : DEnv} {O : Store} : msSeq a b ρ O = seqF (a ρ O) b := rfl
@[simp] theorem seqF_nx {ρ : DEnv} {O : Store} {b : MS} : seqF (.nx ρ O) b = b ρ O := rfl
@[simp] theorem seqF_rt {d : D} {O : Store} {b : MS} : seqF (.rt d O) b = .rt d O := rfl
@[simp] theorem seqF_bk {ρ : DEnv} {O : Store} {b : MS} : seqF (.bk ρ O) b = .bk ρ O := rfl
@[simp] theorem seqF_ct {ρ : DEnv} {O : Store} {b : MS} : seqF (.ct ρ O) b = .ct ρ O := rfl
@[simp] theorem seqF_no {b : MS} : seqF .no b = .no := rfl
@[simp] theorem ms_nil {ρ : DEnv} {O : Store} : msNil ρ O = .nx ρ O := rfl
def retF (r : Res D) : Fl := match r with
  | .ok d O' => .rt d O'
  | .ex x O' => .ex x O'
  | .no => .no
@[simp] theorem ms_ret {m : M D} {ρ : DEnv} {O : Store} : msRet m ρ O = retF (m ρ O) := rfl
@[simp] theorem retF_ok {d : D} {O : Store} : retF (.ok d O) = .rt d O := rfl
def dropF (r : Res D) (ρ : DEnv) : Fl := match r with
  | .ok _ O' => .nx ρ O'
  | .ex x O' => .ex x O'
  | .no => .no
@[simp] theorem ms_drop {m : M D} {ρ : DEnv} {O : Store} : msDrop m ρ O = dropF (m ρ O) ρ := rfl
@[simp] theorem dropF_ok {d : D} {O : Store} {ρ : DEnv} : dropF (.ok d O) ρ = .nx ρ O := rfl
def ifF (r : Res Bool) (a b : MS) (ρ : DEnv) : Fl := match r with
  | .ok c O' => if c = true then a ρ O' else b ρ O'
  | .ex x O' => .ex x O'
  | .no => .no
@[simp] theorem ms_if {t : M Bool} {a b : MS} {ρ : DEnv} {O : Store} : msIf t a b ρ O = ifF (t ρ O) a b ρ := rfl
@[simp] theorem ifF_ok {c : Bool} {O : Store} {a b : MS} {ρ : DEnv} : ifF (.ok c O) a b ρ = if c = true then a ρ O else b ρ O := rfl
def setF (i : Nat) (r : Res D) (ρ : DEnv) : Fl := match r with
  | .ok d O' => .nx (ρ.set i (some d)) O'
  | .ex x O' => .ex x O'
  | .no => .no
@[simp] theorem ms_set {i : Nat} {m : M D} {ρ : DEnv} {O : Store} : msSet i m ρ O = setF i (m ρ O) ρ := rfl
@[simp] theorem setF_ok {i : Nat} {d : D} {O : Store} {ρ : DEnv} : setF i (.ok d O) ρ = .nx (ρ.set i (some d)) O := rfl
def forF (r : Res (List D)) (g : MG) (b : MS) (ρ : DEnv) : Fl := match r with
  | .ok ds O' => floop g b ds ρ O'
  | .ex x O' => .ex x O'
  | .no => .no
@[simp] theorem ms_for {m : M (List D)} {g : MG} {b : MS} {ρ : DEnv} {O : Store} : msFor m g b ρ O = forF (m ρ O) g b ρ := rfl
@[simp] theorem forF_ok {ds : List D} {O : Store} {g : MG} {b : MS} {ρ : DEnv} : forF (.ok ds O) g b ρ = floop g b ds ρ O := rfl
@[simp] theorem mg_n {i : Nat} {d : D} {ρ : DEnv} : mgN i d ρ = some (ρ.set i (some d)) := rfl
def funF (f : Fl) : Res D := match f with
  | .rt d O' => .ok d O'
  | .nx _ O' => .ok .non O'
  | .ex x O' => .ex x O'
  | _ => .no
@[simp] theorem m_fun {n : Nat} {b : MS} {ds : List D} {O : Store} : mFun n b ds O = funF (b (ds.map some ++ List.replicate (n - ds.length) none) O) := rfl
@[simp] theorem funF_rt {d : D} {O : Store} : funF (.rt d O) = .ok d O := rfl
@[simp] theorem funF_nx {ρ : DEnv} {O : Store} : funF (.nx ρ O) = .ok .non O := rfl
@[simp] theorem m_rng1 {m : M (List D)} {ρ : DEnv} {O : Store} : mRng1 m ρ O = (m ρ O).bind fun ds O1 => match ds with
  | [.int j] => if j ≤ 1000000000 ∧ -1000000000 ≤ j then .ok (rangeD 0 j.toNat) O1 else .no
  | _ => .no := rfl
def itF (o : Option (List D)) (O : Store) : Res (List D) := match o with
  | some ds => .ok ds O
  | none => .no
@[simp] theorem itF_some {ds : List D} {O : Store} : itF (some ds) O = .ok ds O := rfl
@[simp] theorem m_iter {m : M D} {ρ : DEnv} {O : Store} : mIter m ρ O = (m ρ O).bind fun d O1 => itF (iterD d) O1 := rfl
@[simp] theorem iterD_lst {ds : List D} : iterD (.lst ds) = some ds := rfl
@[simp] theorem iterD_tup {ds : List D} : iterD (.tup ds) = some ds := rfl
theorem iterD_str {l : List Nat} (h : ascii l = true) : iterD (.str l) = some (signsD l) := by
  show (if ascii l = true then some (signsD l) else none) = _
  rw [if_pos h]
@[simp] theorem m_comp {m : M (List D)} {own : Nat} {cap : List Nat} {g : MG} {t : M Bool} {e : M D} {ρ : DEnv} {O : Store} : mComp m own cap g t e ρ O = (m ρ O).bind fun ds O1 => if ds.length ≤ 1000000 then (cloop g t e ds (cEnv own cap ρ) O1 []).bind fun ys O2 => .ok (.lst ys) O2 else .no := rfl
@[simp] theorem gAdd_i {i j : Int} : gAdd (.int i) (.int j) = some (.int (i + j)) := rfl
@[simp] theorem gAdd_s {a b : List Nat} : gAdd (.str a) (.str b) = if a.length + b.length ≤ 1000000 then some (.str (a ++ b)) else none := rfl
@[simp] theorem gAdd_l {a b : List D} : gAdd (.lst a) (.lst b) = if a.length + b.length ≤ 1000000 then some (.lst (a ++ b)) else none := rfl
@[simp] theorem gMinus_i {i j : Int} : gMinus (.int i) (.int j) = some (.int (i - j)) := rfl
@[simp] theorem gMod_i {i j : Int} : gMod (.int i) (.int j) = if 0 < j then some (.int (i % j)) else none := by
  unfold gMod gI
  by_cases h : 0 < j <;> simp [h]
@[simp] theorem gFdiv_i {i j : Int} : gFdiv (.int i) (.int j) = if 0 < j ∧ j < 1073741824 then some (.int (i / j)) else none := by
  unfold gFdiv gI
  by_cases h : 0 < j ∧ j < 1073741824 <;> simp [h]
theorem gMul_i {i j : Int} (h : (-(2 ^ 64) < i ∧ i < 2 ^ 64) ∨ (-(2 ^ 64) < j ∧ j < 2 ^ 64)) : gMul (.int i) (.int j) = some (.int (i * j)) := by
  unfold gMul
  dsimp only
  rw [if_pos]
  rw [Bool.or_eq_true]
  unfold small64
  rw [Bool.and_eq_true, Bool.and_eq_true, decide_eq_true_eq, decide_eq_true_eq, decide_eq_true_eq, decide_eq_true_eq]
  exact h
@[simp] theorem gLt_i {i j : Int} : gLt (.int i) (.int j) = some (.bl (decide (i < j))) := rfl
@[simp] theorem gGt_i {i j : Int} : gGt (.int i) (.int j) = some (.bl (decide (j < i))) := rfl
@[simp] theorem gGe_i {i j : Int} : gGe (.int i) (.int j) = some (.bl (decide (j ≤ i))) := rfl
@[simp] theorem gLe_i {i j : Int} : gLe (.int i) (.int j) = some (.bl (decide (i ≤ j))) := rfl
theorem one_lt (a b : Nat) : (([a] : List Nat) < [b]) ↔ a < b := by
  constructor
  · intro h
    rcases List.cons_lt_cons_iff.mp h with h | ⟨_, h⟩
    · exact h
    · exact absurd h (List.not_lt_nil _)
  · intro h
    exact List.cons_lt_cons_iff.mpr (.inl h)
@[simp] theorem gLe_1 {a b : Nat} : gLe (.str [a]) (.str [b]) = some (.bl (decide (a ≤ b))) := by
  show some (D.bl (!decide (([b] : List Nat) < [a]))) = _
  have : decide (([b] : List Nat) < [a]) = decide (b < a) := by
    by_cases h : b < a
    · rw [decide_eq_true h, decide_eq_true ((one_lt _ _).mpr h)]
    · rw [decide_eq_false h, decide_eq_false (fun z => h ((one_lt _ _).mp z))]
  rw [this]
  by_cases h : b < a
  · rw [decide_eq_true h, decide_eq_false (by omega)]; rfl
  · rw [decide_eq_false h, decide_eq_true (by omega)]; rfl
@[simp] theorem gEq_i {i j : Int} : gEq (.int i) (.int j) = some (.bl (decide (i = j))) := rfl
@[simp] theorem gEq_s {i j : List Nat} : gEq (.str i) (.str j) = some (.bl (decide (i = j))) := rfl
@[simp] theorem gEq_b {i j : Bool} : gEq (.bl i) (.bl j) = some (.bl (decide (i = j))) := rfl
@[simp] theorem gEq_l {i j : List D} : gEq (.lst i) (.lst j) = if (okE (.lst i) && okE (.lst j)) = true then some (.bl (eqDD (.lst i) (.lst j))) else none := rfl
@[simp] theorem gNe_i {i j : Int} : gNe (.int i) (.int j) = some (.bl (!decide (i = j))) := rfl
@[simp] theorem gNe_s {i j : List Nat} : gNe (.str i) (.str j) = some (.bl (!decide (i = j))) := rfl
@[simp] theorem gNe_b {i j : Bool} : gNe (.bl i) (.bl j) = some (.bl (!decide (i = j))) := rfl
@[simp] theorem gNe_l {i j : List D} : gNe (.lst i) (.lst j) = if (okE (.lst i) && okE (.lst j)) = true then some (.bl (!eqDD (.lst i) (.lst j))) else none := rfl
@[simp] theorem gIn_s {n : Bool} {c : Nat} {l : List Nat} : gIn n (.str [c]) (.str l) = some (.bl (n ^^ decide (c ∈ l))) := rfl
theorem gIx_l {ds : List D} {i : Int} : gIx (.lst ds) (.int i) = atI ds i := rfl
theorem gIx_s {l : List Nat} {i : Int} : gIx (.str l) (.int i) = if l.length ≤ 1000000 then (atI l i).map (fun c => .str [c]) else none := rfl
@[simp] theorem gLen_s {l : List Nat} : gLen [.str l] = if l.length ≤ 1000000 then some (.int l.length) else none := rfl
@[simp] theorem gLen_l {l : List D} : gLen [.lst l] = some (.int l.length) := rfl
@[simp] theorem gLen_t {l : List D} : gLen [.tup l] = some (.int l.length) := rfl
@[simp] theorem gMax_i {i j : Int} : gMax [.int i, .int j] = some (.int (if j > i then j else i)) := rfl
@[simp] theorem gMin_i {i j : Int} : gMin [.int i, .int j] = some (.int (if j < i then j else i)) := rfl
@[simp] theorem gInt_i {i : Int} : gInt [.int i] = some (.int i) := rfl
@[simp] theorem gInt_b {b : Bool} : gInt [.bl b] = some (.int (if b then 1 else 0)) := rfl
@[simp] theorem gPow_c : gPow (.int 10) (.int 18) = some (.int 1000000000000000000) := by rfl
@[simp] theorem gPow_d : gPow (.int 10) (.int 9) = some (.int 1000000000) := by rfl
@[simp] theorem atI_ofNat {α : Type} {xs : List α} {j : Nat} : atI xs (j : Int) = xs[j]? := by
  unfold atI ixN
  rw [if_pos (by omega)]
  by_cases h : j < xs.length
  · rw [if_pos (by omega)]
    simp
  · rw [if_neg (by omega), List.getElem?_eq_none (by omega)]
    rfl
section
variable {c : Prop} [Decidable c]
@[simp] theorem funF_ite {a b : Fl} : funF (if c then a else b) = if c then funF a else funF b := by split <;> rfl
@[simp] theorem retF_ite {a b : Res D} : retF (if c then a else b) = if c then retF a else retF b := by split <;> rfl
@[simp] theorem seqF_ite {a b : Fl} {r : MS} : seqF (if c then a else b) r = if c then seqF a r else seqF b r := by split <;> rfl
@[simp] theorem bind_ite {α β : Type} {a b : Res α} {f : α → Store → Res β} : (if c then a else b).bind f = if c then a.bind f else b.bind f := by split <;> rfl
@[simp] theorem ifF_ite {a b : Res Bool} {x y : MS} {ρ : DEnv} : ifF (if c then a else b) x y ρ = if c then ifF a x y ρ else ifF b x y ρ := by split <;> rfl
@[simp] theorem setF_ite {a b : Res D} {i : Nat} {ρ : DEnv} : setF i (if c then a else b) ρ = if c then setF i a ρ else setF i b ρ := by split <;> rfl
@[simp] theorem ofO_ite {a b : Option D} {O : Store} : ofO (if c then a else b) O = if c then ofO a O else ofO b O := by split <;> rfl
end
@[simp] theorem isTy_1 : isTy "str" "str" = true := by decide
@[simp] theorem isTy_2 : isTy "int" "str" = false := by decide
@[simp] theorem isTy_3 : isTy "bool" "str" = false := by decide
@[simp] theorem isTy_4 : isTy "list" "str" = false := by decide
@[simp] theorem isTy_5 : isTy "tuple" "str" = false := by decide
@[simp] theorem isTy_6 : isTy "dict" "str" = false := by decide
@[simp] theorem isTy_7 : isTy "NoneType" "str" = false := by decide
@[simp] theorem isTy_8 : isTy "int" "int" = true := by decide
@[simp] theorem isTy_9 : isTy "int" "bool" = false := by decide
@[simp] theorem isTy_10 : isTy "bool" "bool" = true := by decide
@[simp] theorem isTy_11 : isTy "list" "list" = true := by decide
@[simp] theorem isTy_12 : isTy "tuple" "tuple" = true := by decide
@[simp] theorem isTy_13 : isTy "NoneType" "list" = false := by decide
theorem floop_ind {g : MG} {b : MS} (Pv : Nat → DEnv → Store → Prop) : ∀ (ds : List D) (k : Nat) (ρ : DEnv) (O : Store), Pv k ρ O →
    (∀ i d ρ O, ds[i]? = some d → Pv (k + i) ρ O → ∃ ρ1, g d ρ = some ρ1 ∧ ∃ ρ2 O2, (b ρ1 O = .nx ρ2 O2 ∨ b ρ1 O = .ct ρ2 O2) ∧ Pv (k + i + 1) ρ2 O2) → ∃ ρ' O', floop g b ds ρ O = .nx ρ' O' ∧ Pv (k + ds.length) ρ' O'
  | [], k, ρ, O, h, _ => ⟨ρ, O, rfl, h⟩
  | d :: ds, k, ρ, O, h, hs => by
    obtain ⟨ρ1, e1, ρ2, O2, e2, h2⟩ := hs 0 d ρ O rfl h
    obtain ⟨ρ', O', e3, h3⟩ := floop_ind Pv ds (k + 1) ρ2 O2 h2 fun i d' ρ' O' hi hp => by
      have := hs (i + 1) d' ρ' O' (by simpa using hi) (by rw [show k + (i + 1) = k + 1 + i by omega]; exact hp)
      rw [show k + (i + 1) + 1 = k + 1 + i + 1 by omega] at this
      exact this
    refine ⟨ρ', O', ?_, by rw [List.length_cons, show k + (ds.length + 1) = k + 1 + ds.length by omega]; exact h3⟩
    unfold floop
    rw [e1]
    dsimp only
    rcases e2 with e2 | e2 <;> rw [e2] <;> exact e3
@[simp] theorem mp_nil {ρ : DEnv} {O : Store} : mpNil ρ O = .ok [] O := rfl
@[simp] theorem mp_cons {a b : M D} {r : M (List (D × D))} {ρ : DEnv} {O : Store} : mpCons a b r ρ O = (a ρ O).bind fun x O1 => (b ρ O1).bind fun y O2 => (r ρ O2).bind fun ps O3 => .ok ((x, y) :: ps) O3 := rfl
def diF (o : Option (List Key)) (kv : List (D × D)) (O : Store) : Res D := match o with
  | some ks => if ks.Nodup ∧ kv.length ≤ 15 then .ok (.dic (kv.map (·.1)) (kv.map (·.2))) O else .no
  | none => .no
@[simp] theorem diF_some {ks : List Key} {kv : List (D × D)} {O : Store} : diF (some ks) kv O = if ks.Nodup ∧ kv.length ≤ 15 then .ok (.dic (kv.map (·.1)) (kv.map (·.2))) O else .no := rfl
@[simp] theorem m_disp {m : M (List (D × D))} {ρ : DEnv} {O : Store} : mDisp m ρ O = (m ρ O).bind fun kv O1 => diF (keysOf kv) kv O1 := rfl
@[simp] theorem keyOf_i {i : Int} : keyOf (.int i) = some (.inl i) := rfl
@[simp] theorem keyOf_s {i : List Nat} : keyOf (.str i) = some (.inr (S i)) := rfl
@[simp] theorem keysOf_nil : keysOf [] = some [] := rfl
@[simp] theorem keysOf_cons {a b : D} {r : List (D × D)} : keysOf ((a, b) :: r) = (keyOf a).bind fun k => (keysOf r).map (k :: ·) := rfl
def joF (o : Option (List (List Nat))) (O : Store) : Res D := match o with
  | some ls => if (ls.map List.length).sum ≤ 1000000 then .ok (.str ls.flatten) O else .no
  | none => .no
@[simp] theorem joF_some {ls : List (List Nat)} {O : Store} : joF (some ls) O = if (ls.map List.length).sum ≤ 1000000 then .ok (.str ls.flatten) O else .no := rfl
def jdF (d : D) (O : Store) : Res D := match d with
  | .lst ds => joF (strsD ds) O
  | _ => .no
@[simp] theorem jdF_l {ds : List D} {O : Store} : jdF (.lst ds) O = joF (strsD ds) O := rfl
@[simp] theorem m_join {m : M D} {ρ : DEnv} {O : Store} : mJoin m ρ O = (m ρ O).bind fun d O1 => jdF (deref O1 d) O1 := rfl
theorem strsD_map {α : Type} {f : α → List Nat} : ∀ l : List α, strsD (l.map fun x => .str (f x)) = some (l.map f)
  | [] => rfl
  | x :: l => by
    show (strsD (l.map fun x => D.str (f x))).map _ = _
    rw [strsD_map l]
    rfl
@[simp] theorem c_env {own : Nat} {cap : List Nat} {ρ : DEnv} : cEnv own cap ρ = List.replicate own none ++ cap.map fun j => (ρ[j]?).join := rfl
@[simp] theorem cloop_nil {g : MG} {t : M Bool} {m : M D} {ρ : DEnv} {O : Store} {acc : List D} : cloop g t m [] ρ O acc = .ok acc O := rfl
theorem toPs_map : ∀ ds : List D, toPs ds = ds.map toP
  | [] => rfl
  | d :: ds => by rw [toPs, toPs_map ds]; rfl
theorem plainDs_all : ∀ {ds : List D}, (∀ d ∈ ds, plainD d = true) → plainDs ds = true
  | [], _ => rfl
  | d :: ds, h => by rw [plainDs, h d List.mem_cons_self, plainDs_all fun x hx => h x (List.mem_cons_of_mem _ hx)]; rfl
theorem okE_lst {n : Nat} (hn : n < 60) {ds : List D} (h : ∀ d ∈ ds, plainD d = true ∧ (toP d).canLay0 = true ∧ (toP d).depth ≤ n) : okE (.lst ds) = true := by
  unfold okE
  rw [Bool.and_eq_true]
  refine ⟨?_, ?_⟩
  · rw [plainD]; exact plainDs_all fun d hd => (h d hd).1
  · rw [toP, toPs_map]
    refine ok_list hn fun d hd => ?_
    obtain ⟨x, hx, rfl⟩ := List.mem_map.mp hd
    exact (h x hx).2
theorem lay_str {l : List Nat} (h : ∀ c ∈ l, c < 1114112) : (PyData.str (S l)).canLay0 = true := by
  show PyData.strOk (S l) = true
  unfold PyData.strOk S
  simp
  exact h
theorem eqDD_refl {d : D} (h : okE d = true) : eqDD d d = true := by
  unfold okE at h
  rw [Bool.and_eq_true] at h
  have := h.2
  unfold okD at this
  rw [Bool.and_eq_true] at this
  exact SeqAt.eqv_refl _ this.1
end L2
namespace L2
open PySem PySem.Spec PyProof.Rows
def it (f : Int → Int) : Nat → Int → Int
  | 0, x => x
  | n + 1, x => f (it f n x)
def mix (n k : Int) : Int := if n > 1000000000000000000 then it (fun r => r / 1000000000) k.toNat n % 1000000000
  else
    let m := it (fun m => (m * 48271 + 104729) % 2147483629) (k + 2).toNat (n % 2147483647 + 7919)
    m * m % 998244353 / 11
theorem it_lt (j : Nat) (x : Int) (h0 : 0 ≤ x) (h1 : x < 2147491566) : 0 ≤ it (fun m => (m * 48271 + 104729) % 2147483629) j x ∧ it (fun m => (m * 48271 + 104729) % 2147483629) j x < 2147491566 := by
  induction j with
  | zero => exact ⟨h0, h1⟩
  | succ j ih =>
    refine ⟨Int.emod_nonneg _ (by decide), ?_⟩
    have := Int.emod_lt_of_pos (it (fun m => (m * 48271 + 104729) % 2147483629) j x * 48271 + 104729) (show (0 : Int) < 2147483629 by decide)
    show (it (fun m => (m * 48271 + 104729) % 2147483629) j x * 48271 + 104729) % 2147483629 < _
    omega
def B_mix : MS := (msSeq (msIf (mTest (mBin gGt (mVar 0) (mBin gPow (mC (.int 10)) (mC (.int 18))))) (msSeq (msSet 2 (mG (mVar 0)))
    (msSeq (msFor (mRng1 (maCons (mVar 1) maNil)) (mgN 3) (msSet 2 (mBin gFdiv (mVar 2) (mBin gPow (mC (.int 10)) (mC (.int 9))))))
    (msRet (mBin gMod (mVar 2) (mBin gPow (mC (.int 10)) (mC (.int 9))))))) msNil)
    (msSeq (msSet 4 (mBin gAdd (mBin gMod (mVar 0) (mC (.int 2147483647))) (mC (.int 7919))))
    (msSeq (msFor (mRng1 (maCons (mBin gAdd (mVar 1) (mC (.int 2))) maNil)) (mgN 3) (msSet 4 (mBin gMod (mBin gAdd (mBin gMul (mVar 4) (mC (.int 48271))) (mC (.int 104729))) (mC (.int 2147483629)))))
    (msRet (mBin gFdiv (mBin gMod (mBin gMul (mVar 4) (mVar 4)) (mC (.int 998244353))) (mC (.int 11)))))))
theorem rangeD_len (lo : Int) (n : Nat) : (rangeD lo n).length = n := by simp [rangeD]
theorem mix_eq (n k : Int) (h0 : 0 ≤ k) (h1 : k ≤ 1000000) (O : Store) : mFun 5 B_mix [.int n, .int k] O = .ok (.int (mix n k)) O := by
  unfold mix
  by_cases hn : n > 1000000000000000000
  · obtain ⟨ρ', O', e, rfl, o3, rfl⟩ := floop_ind (g := mgN 3) (b := msSet 2 (mBin gFdiv (mVar 2) (mBin gPow (mC (.int 10)) (mC (.int 9)))))
      (fun i ρ O' => O' = O ∧ ∃ o3, ρ = [some (.int n), some (.int k), some (.int (it (fun r => r / 1000000000) i n)), o3, none]) (rangeD 0 k.toNat) 0 [some (.int n), some (.int k), some (.int n), none, none] O ⟨rfl, none, rfl⟩ (by
        rintro i d ρ O' hi ⟨rfl, o3, rfl⟩
        refine ⟨_, rfl, ?_⟩
        simp
        rw [show it (fun r => r / 1000000000) (i + 1) n = it (fun r => r / 1000000000) i n / 1000000000 from rfl]
        exact ⟨_, _, ⟨rfl, rfl⟩, rfl, _, rfl⟩)
    rw [rangeD_len, Nat.zero_add] at e
    have hk : k ≤ 1000000000 ∧ -1000000000 ≤ k := by omega
    simp [B_mix, hn, hk, e]
  · have hm0 : 0 ≤ n % 2147483647 + 7919 := by have := Int.emod_nonneg n (show (2147483647 : Int) ≠ 0 by decide); omega
    have hm1 : n % 2147483647 + 7919 < 2147491566 := by have := Int.emod_lt_of_pos n (show (0 : Int) < 2147483647 by decide); omega
    obtain ⟨ρ', O', e, rfl, o3, rfl⟩ := floop_ind (g := mgN 3) (b := msSet 4 (mBin gMod (mBin gAdd (mBin gMul (mVar 4) (mC (.int 48271))) (mC (.int 104729))) (mC (.int 2147483629))))
      (fun i ρ O' => O' = O ∧ ∃ o3, ρ = [some (.int n), some (.int k), none, o3, some (.int (it (fun m => (m * 48271 + 104729) % 2147483629) i (n % 2147483647 + 7919)))]) (rangeD 0 (k + 2).toNat) 0 [some (.int n), some (.int k), none, none, some (.int (n % 2147483647 + 7919))] O ⟨rfl, none, rfl⟩ (by
        rintro i d ρ O' hi ⟨rfl, o3, rfl⟩
        refine ⟨_, rfl, ?_⟩
        obtain ⟨b0, b1⟩ := it_lt i _ hm0 hm1
        have := gMul_i (i := it (fun m => (m * 48271 + 104729) % 2147483629) i (n % 2147483647 + 7919)) (j := 48271) (.inr ⟨by decide, by decide⟩)
        simp [this]
        rw [show it (fun m => (m * 48271 + 104729) % 2147483629) (i + 1) (n % 2147483647 + 7919) = (it (fun m => (m * 48271 + 104729) % 2147483629) i (n % 2147483647 + 7919) * 48271 + 104729) % 2147483629 from rfl]
        exact ⟨_, _, ⟨rfl, rfl⟩, rfl, _, rfl⟩)
    rw [rangeD_len, Nat.zero_add] at e
    have hk : k + 2 ≤ 1000000000 ∧ -1000000000 ≤ k + 2 := by omega
    obtain ⟨b0, b1⟩ := it_lt (k + 2).toNat _ hm0 hm1
    have hq := gMul_i (i := it (fun m => (m * 48271 + 104729) % 2147483629) (k + 2).toNat (n % 2147483647 + 7919)) (j := it (fun m => (m * 48271 + 104729) % 2147483629) (k + 2).toNat (n % 2147483647 + 7919)) (.inl ⟨by omega, by omega⟩)
    simp [B_mix, hn, hk, e, hq]
end L2
namespace L2
open PySem PySem.Spec PyProof.Rows
def fldF (cs : List Str) (f : Str) (d : D) (O : Store) : Res D := match d with
  | .ob n => match O[n]? with
    | some (.ins c fs) => if c ∈ cs then match fs.lookup f with
      | some y => .ok y O
      | none => .no else .no
    | _ => .no
  | _ => .no
@[simp] theorem m_fld {cs : List Str} {f : Str} {m : M D} {ρ : DEnv} {O : Store} : mFld cs f m ρ O = (m ρ O).bind (fldF cs f) := rfl
def puF (cs : List Str) (f : Str) (d : D) (ρ : DEnv) (r : Res D) : Fl := match r with
  | .ok (.ob n) O2 => match O2[n]? with
    | some (.ins c fs) => if c ∈ cs ∧ fs.length < 900 then .nx ρ (O2.set n (.ins c (putD f d fs))) else .no
    | _ => .no
  | _ => .no
def sfF (cs : List Str) (f : Str) (mo : M D) (r : Res D) (ρ : DEnv) : Fl := match r with
  | .ok d O1 => puF cs f d ρ (mo ρ O1)
  | .ex x O' => .ex x O'
  | .no => .no
@[simp] theorem ms_fld {cs : List Str} {f : Str} {mo mv : M D} {ρ : DEnv} {O : Store} : msFld cs f mo mv ρ O = sfF cs f mo (mv ρ O) ρ := by
  unfold msFld sfF puF
  cases mv ρ O <;> rfl
@[simp] theorem sfF_ok {cs : List Str} {f : Str} {mo : M D} {d : D} {O : Store} {ρ : DEnv} : sfF cs f mo (.ok d O) ρ = puF cs f d ρ (mo ρ O) := rfl
def meF (c m : Str) (cf : List D → Store → Res D) (ma : Store → Res (List D)) (d : D) (O1 : Store) : Res D := match d with
  | .ob n => match O1[n]? with
    | some (.ins c' fs) => if c' = c ∧ (fs.lookup m).isNone = true then (ma O1).bind fun ds O2 => cf (.ob n :: ds) O2 else .no
    | _ => .no
  | _ => .no
@[simp] theorem m_meth {c m : Str} {cf : List D → Store → Res D} {mo : M D} {ma : M (List D)} {ρ : DEnv} {O : Store} : mMeth c m cf mo ma ρ O = (mo ρ O).bind (meF c m cf (ma ρ)) := rfl
def mkF (n : Nat) (r : Res D) : Res D := match r with
  | .ok .non O2 => .ok (.ob n) O2
  | .ok _ _ => .no
  | .ex x O2 => .ex x O2
  | .no => .no
@[simp] theorem m_make {c : Str} {cf : List D → Store → Res D} {ma : M (List D)} {ρ : DEnv} {O : Store} : mMake c cf ma ρ O = (ma ρ O).bind fun ds O1 => mkF O1.length (cf (.ob O1.length :: ds) (O1 ++ [.ins c []])) := by
  unfold mMake
  congr 1
@[simp] theorem mkF_ok {n : Nat} {O : Store} : mkF n (.ok .non O) = .ok (.ob n) O := rfl
def apF (i : Nat) (r : Res D) (ρ : DEnv) : Fl := match r with
  | .ok d O' => match ρ[i]? with
    | some (some (.lst ds)) => if ds.length < 1000000 then .nx (ρ.set i (some (.lst (ds ++ [d])))) O' else .no
    | _ => .no
  | .ex x O' => .ex x O'
  | .no => .no
@[simp] theorem ms_app {i : Nat} {m : M D} {ρ : DEnv} {O : Store} : msApp i m ρ O = apF i (m ρ O) ρ := rfl
theorem apF_ok {i : Nat} {d : D} {ds : List D} {ρ : DEnv} {O : Store} (h : ρ[i]? = some (some (.lst ds))) (hl : ds.length < 1000000) : apF i (.ok d O) ρ = .nx (ρ.set i (some (.lst (ds ++ [d])))) O := by
  unfold apF; dsimp only; rw [h]; dsimp only; rw [if_pos hl]
def exF (i : Nat) (r : Res D) (ρ : DEnv) : Fl := match r with
  | .ok d O' => match ρ[i]?, deref O' d with
    | some (some (.lst ds)), .lst es => if ds.length + es.length ≤ 1000000 then .nx (ρ.set i (some (.lst (ds ++ es)))) O' else .no
    | _, _ => .no
  | .ex x O' => .ex x O'
  | .no => .no
@[simp] theorem ms_ext {i : Nat} {m : M D} {ρ : DEnv} {O : Store} : msExt i m ρ O = exF i (m ρ O) ρ := rfl
def enF (d : D) (O1 : Store) : Res (List D) := match d with
  | .lst ds => .ok (enumD 0 ds) O1
  | .str l => if ascii l = true then .ok (enumD 0 (signsD l)) O1 else .no
  | _ => .no
@[simp] theorem m_enum {m : M D} {ρ : DEnv} {O : Store} : mEnum m ρ O = (m ρ O).bind enF := rfl
def asF (r : Res D) (g : MG) (ρ : DEnv) : Fl := match r with
  | .ok d O' => match g d ρ with
    | some ρ' => .nx ρ' O'
    | none => .no
  | .ex x O' => .ex x O'
  | .no => .no
@[simp] theorem ms_asg {m : M D} {g : MG} {ρ : DEnv} {O : Store} : msAsg m g ρ O = asF (m ρ O) g ρ := rfl
@[simp] theorem mg_2 {i j : Nat} {a b : D} {ρ : DEnv} : mgN' 2 (mgsCons (mgN i) (mgsCons (mgN j) mgsNil)) (.tup [a, b]) ρ = some ((ρ.set i (some a)).set j (some b)) := rfl
def stF (a b : D) (O : Store) : Res D := match a, b with
  | .str l, .str n => .ok (.bl (decide (l.take n.length = n))) O
  | _, _ => .no
@[simp] theorem m_starts {a b : M D} {ρ : DEnv} {O : Store} : mStarts a b ρ O = (a ρ O).bind fun x O1 => (b ρ O1).bind fun y O2 => stF x y O2 := rfl
@[simp] theorem stF_s {l n : List Nat} {O : Store} : stF (.str l) (.str n) O = .ok (.bl (decide (l.take n.length = n))) O := rfl
theorem cloop_mapT {α : Type} {g : MG} {t : M Bool} {m : M D} (Pv : DEnv → Prop) (f h : α → D) : ∀ (xs : List α) (ρ : DEnv) (O : Store) (acc : List D), Pv ρ → (∀ x ∈ xs, ∀ ρ, Pv ρ → ∃ ρ1, g (f x) ρ = some ρ1 ∧ Pv ρ1 ∧ t ρ1 O = .ok true O ∧ m ρ1 O = .ok (h x) O) → cloop g t m (xs.map f) ρ O acc = .ok (acc ++ xs.map h) O
  | [], ρ, O, acc, _, _ => by simp [cloop]
  | x :: xs, ρ, O, acc, hp, hs => by
    obtain ⟨ρ1, e1, h1, e2, e3⟩ := hs x List.mem_cons_self ρ hp
    rw [List.map_cons]
    unfold cloop
    rw [e1]
    dsimp only
    rw [e2]
    dsimp only
    rw [e3]
    dsimp only
    rw [cloop_mapT Pv f h xs ρ1 O _ h1 fun d' hd' => hs d' (List.mem_cons_of_mem _ hd')]
    simp
def kEnd : List Nat := [101, 110, 100]
def kAnew : List Nat := [97, 110, 101, 119]
def kPlain : List Nat := [112, 108, 97, 105, 110]
def kSign : List Nat := [115, 105, 103, 110]
def kInk : List Nat := [105, 110, 107]
def kGround : List Nat := [103, 114, 111, 117, 110, 100]
def item (p : Int) (k v : List Nat) : D := .tup [.int p, .str k, .str v]
def col (c : Nat) : Bool := decide (c ∈ [97, 98, 99, 100, 101, 102, 103, 104, 46])
def oneG (x : Nat) : List Nat → List Nat × List Nat × Nat
  | [] => (kSign, [91], 0)
  | e :: _ => if e = 93 then (kGround, [x], 3) else (kSign, [91], 0)
def oneH : List Nat → List Nat × List Nat × Nat
  | [] => (kSign, [91], 0)
  | x :: t => if col x = true then oneG x t else (kSign, [91], 0)
def oneC (x : Nat) : List Nat → List Nat × List Nat × Nat
  | [] => (kSign, [91], 0)
  | e :: _ => if e = 93 then (kInk, [x], 2) else (kSign, [91], 0)
def oneB : List Nat → List Nat × List Nat × Nat
  | [] => (kSign, [91], 0)
  | d :: t => if d = 93 then (kPlain, [], 1) else if d = 91 then (kSign, [91], 1) else if col d = true then oneC d t else if d = 47 then oneH t else (kSign, [91], 0)
def one (c : Nat) (t : List Nat) : List Nat × List Nat × Nat :=
  if c = 10 then (kEnd, [], 0) else if c = 9 then (kAnew, [], 0) else if c = 91 then oneB t else (kSign, [c], 0)
def items (p : Int) : List Nat → List D
  | [] => []
  | c :: t => item p (one c t).1 (one c t).2.1 :: items (p + ((one c t).2.2 + 1 : Nat)) (t.drop (one c t).2.2)
termination_by l => l.length
decreasing_by
  simp only [List.length_drop, List.length_cons]
  omega
def own (p : Int) (c : Nat) : D := if c = 10 then item p kEnd [] else if c = 9 then item p kAnew [] else item p kSign [c]
def owns : Int → List Nat → List D
  | _, [] => []
  | p, c :: l => own p c :: owns (p + 1) l
def mayB : List Nat → Bool
  | [a] => decide (a = 91)
  | [a, b] => decide (a = 91) && (decide (b = 47) || col b)
  | [a, b, c] => decide (a = 91) && (decide (b = 47) && col c)
  | _ => false
def markB : List Nat → Option (List Nat × List Nat)
  | [a, b] => if a = 91 ∧ b = 93 then some (kPlain, []) else if a = 91 ∧ b = 91 then some (kSign, [91]) else none
  | [a, b, c] => if a = 91 ∧ col b = true ∧ c = 93 then some (kInk, [b]) else none
  | [a, b, c, d] => if a = 91 ∧ b = 47 ∧ col c = true ∧ d = 93 then some (kGround, [c]) else none
  | _ => none
def tk (h : List Nat) (c : Nat) (p : Int) : List D × List Nat :=
  if mayB (h ++ [c]) = true then ([], h ++ [c]) else match markB (h ++ [c]) with
  | some (k, v) => ([item p k v], [])
  | none => if c = 91 then (owns p h, [91]) else (owns p (h ++ [c]), [])
inductive Held : List Nat → Prop where
  | h0 : Held []
  | h1 : Held [91]
  | h2 : Held [91, 47]
  | h3 (x : Nat) (h : col x = true) : Held [91, x]
  | h4 (x : Nat) (h : col x = true) : Held [91, 47, x]
theorem Held.len {h : List Nat} (H : Held h) : h.length ≤ 3 := by cases H <;> simp
end L2
namespace L2
open PySem PySem.Spec PyProof.Rows
@[simp] theorem gList_l {l : List D} : gList [.lst l] = some (.lst l) := rfl
def fzF (f : Fl) : Fl := match f with
  | .rt d O' => .rt d O'
  | _ => .no
@[simp] theorem ms_fz {m : MS} {ρ : DEnv} {O : Store} : msFz m ρ O = fzF (m ρ O) := rfl
@[simp] theorem fzF_rt {d : D} {O : Store} : fzF (.rt d O) = .rt d O := rfl
def ziF (d e : D) (O : Store) : Res (List D) := match d, e with
  | .lst ds, .lst es => .ok (zipD ds es) O
  | _, _ => .no
@[simp] theorem m_zip {ma mb : M D} {ρ : DEnv} {O : Store} : mZip ma mb ρ O = (ma ρ O).bind fun d O1 => (mb ρ O1).bind fun e O2 => ziF d e O2 := by
  unfold mZip
  congr 1
@[simp] theorem ziF_l {ds es : List D} {O : Store} : ziF (.lst ds) (.lst es) O = .ok (zipD ds es) O := rfl
end L2
namespace K90
open PySem L2
seal VE SE OE WE TsE TwE AE VS VSs VG VGs VI VIc VO VIf DPE VSX VSXs
def top (i : Nat) : Stmt := PySem.Challenge.pw_outweave_k90_words_and_figures.main.body.getD i (.Pass ⟨0, 0, 0, 0⟩)
abbrev s_is_figures : Stmt := top 14
theorem sc_is_figures : FnScope ["thing"] ["thing"] (defScope s_is_figures) := ⟨rfl, rfl, rfl, by decide +kernel, rfl, by decide +kernel, by decide +kernel⟩
def b_is_figures : MS :=
    (msSeq (msIf (mtOr (mtNot (mTru (mIsi "str" (mVar 0)))) (mtNot (mTest (mChain gLe gLe (mC (.int 1)) (mCallB gLen (maCons (mVar 0) maNil)) (mC (.int 6)))))) (msRet (mC (.bl false))) msNil)
    (msSeq (msIf (mtNot (mTru (mCallB gAll (maCons (mComp (mIter (mVar 0)) 1 [] (mgN 0) mYes (mChain gLe gLe (mC (.str [48])) (mVar 0) (mC (.str [57])))) maNil)))) (msRet (mC (.bl false))) msNil)
    (msRet (mOrV (mBin gEq (mVar 0) (mC (.str [48]))) (mBin gNe (mBin gIx (mVar 0) (mC (.int 0))) (mC (.str [48])))))))
def c_is_figures : List D → Store → Res D := mFun 1 b_is_figures
theorem ok_is_figures {Pr : Program} {w : World} {K : Frag} {mg : Str → Option Value} {base : Heap} (D_is_figures : Def K mg "is_figures" s_is_figures)
    (B : Blt mg)
    (c_MOST_FIGURES : ∃ u, mg "MOST_FIGURES" = some u ∧ RelV (.int 6) u) :
    Can Pr w K mg base "is_figures" ["thing"] 1 (vSp K mg [.s] (rV K) c_is_figures) := by
  refine vdef (k := 0) (b := b_is_figures) D_is_figures sc_is_figures (fun _ _ _ _ _ _ => bndS fun _ => bnd0 rfl) [.s] [] rV_ok (fun _ _ _ _ => Rp.non) (body := fun f cdv A outer s H E hr P => ?_)
  refine vss_cons ?_ ?_
  · refine vs_if ?_ ?_ vss_nil
    · refine ts_w ?_
      · refine tw_or ?_ ?_
        · refine ts_not ?_
          · refine ts_val ?_
            · refine se_oe (oe_isi "str" (hb := bt_str) B.isinstance_ B.str_ (se_var 0))
        · refine tw_or1 ?_
          · refine ts_not ?_
            · refine ts_chain od_le od_le (se_ve ve_int) ?_ ?_
              · refine se_oe ?_
                · refine oe_callB (ms := [.s]) (hv := bb_len) cd_len B.len_ ?_
                  · refine ae_s (se_var 0) ae_nil
              · refine se_ve ?_
                · refine ve_const c_MOST_FIGURES (fun _ _ _ => Rp.int)
    · refine vss_one (vs_retV ve_bl)
  · refine vss_cons ?_ ?_
    · refine vs_if ?_ ?_ vss_nil
      · refine ts_not ?_
        · refine ts_val ?_
          · refine se_oe ?_
            · refine oe_callB (ms := [.s]) (hv := bb_all) (cd_all rfl) B.all_ ?_
              · refine ae_s ?_ ae_nil
                · refine se_oe ?_
                  · refine oe_comp (defScope s_is_figures) ["thing"] ["sign"] [] rfl (vic_any (se_var 0)) (fun _ _ _ _ P => ?_) (fun _ _ _ _ P => ?_) (fun _ _ _ _ P => ?_)
                    · exact vg_name (i := 0) (show (compN ["thing"] ["sign"] []).Nodup by decide +kernel) rfl (by first | exact Or.inl rfl | exact Or.inr rfl)
                    · exact vif_nil
                    · refine ve_oe ?_
                      · refine oe_chain od_le od_le (se_ve (ve_str [48])) (se_ve (ve_var 0)) (se_ve (ve_str [57]))
      · refine vss_one (vs_retV ve_bl)
    · refine vss_one ?_
      · refine vs_retV ?_
        · refine ve_or ?_ ?_
          · refine ve_oe ?_
            · refine oe_cmp (od_eq hr) (se_var 0) (se_ve (ve_str [48])) (nomark _)
          · refine ve_one ?_
            · refine ve_oe ?_
              · refine oe_cmp (od_ne hr) ?_ (se_ve (ve_str [48])) (nomark _)
                · refine se_ve ?_
                  · refine ve_ix (se_var 0) (se_ve ve_int)
abbrev s_words_of : Stmt := top 15
theorem sc_words_of : FnScope ["row", "words"] ["row"] (defScope s_words_of) := ⟨rfl, rfl, rfl, by decide +kernel, rfl, by decide +kernel, by decide +kernel⟩
def b_words_of : MS :=
    (msSeq (msIfX (mtNot (mTru (mIsi "str" (mVar 0)))) (msSeq (msRaise "NoRow")
    msNil) msNil)
    (msSeq (msN (msSet 1 (mSplit (mG (mVar 0)) (mC (.str [32])))))
    (msSeq (msIfX (mTest (mBin (gInT false) (mC (.str [])) (mVar 1))) (msSeq (msRaise "NoRow")
    msNil) msNil)
    (msSeq (msN (msRet (mVar 1)))
    msNil))))
def c_words_of : List D → Store → Res D := mFun 2 b_words_of
theorem ok_words_of {Pr : Program} {w : World} {K : Frag} {mg : Str → Option Value} {base : Heap} (D_words_of : Def K mg "words_of" s_words_of)
    (B : Blt mg)
    (X_NoRow : ExcC K mg "NoRow") :
    CanX Pr w K mg base "words_of" ["row"] 1 (vSpX K mg [.s] (rO K) c_words_of) := by
  refine vdefX (k := 0) (b := b_words_of) D_words_of sc_words_of (fun _ _ _ _ _ _ => bndS fun _ => bnd0 rfl) [.s] [.o] rO_ok (fun _ _ _ _ => .inl ⟨rfl, Rp.non⟩) (body := fun f cdv A outer s H E hr P => ?_)
  refine vxs_cons ?_ ?_
  · refine vx_if ?_ ?_ vxs_nil
    · refine ts_not ?_
      · refine ts_val ?_
        · refine se_oe (oe_isi "str" (hb := bt_str) B.isinstance_ B.str_ (se_var 0))
    · refine vxs_cons (vx_raise X_NoRow rfl pe_str) vxs_nil
  · refine vxs_cons ?_ ?_
    · refine vx_n ?_
      · refine vs_setO (i := 1) sc_words_of.nd rfl (by first | exact Or.inl rfl | exact Or.inr rfl) ?_
        · refine oe_split (ve_se (se_var 0)) (ve_str [32])
    · refine vxs_cons ?_ ?_
      · refine vx_if ?_ ?_ vxs_nil
        · refine ts_cmp (od_inT hr) (se_ve (ve_str [])) (se_var 1) (by with_unfolding_all rfl)
        · refine vxs_cons (vx_raise X_NoRow rfl pe_str) vxs_nil
      · refine vxs_cons (vx_n (vs_retX 1)) vxs_nil
abbrev s_law_mix : Stmt := top 18
theorem sc_law_mix : FnScope ["_law_cell", "_law_k", "_law_rest", "_law_turn", "_law_number"] ["_law_cell", "_law_k"] (defScope s_law_mix) := ⟨rfl, rfl, rfl, by decide +kernel, rfl, by decide +kernel, by decide +kernel⟩
def b_law_mix : MS :=
    (msSeq (msIf (mTest (mBin gGt (mVar 0) (mBin gPow (mC (.int 10)) (mC (.int 18))))) (msSeq (msSet 2 (mG (mVar 0)))
    (msSeq (msFor (mRng1 (maCons (mVar 1) maNil)) (mgN 3) (msSet 2 (mBin gFdiv (mVar 2) (mBin gPow (mC (.int 10)) (mC (.int 9))))))
    (msRet (mBin gMod (mVar 2) (mBin gPow (mC (.int 10)) (mC (.int 9))))))) msNil)
    (msSeq (msSet 4 (mBin gAdd (mBin gMod (mVar 0) (mC (.int 2147483647))) (mC (.int 7919))))
    (msSeq (msFor (mRng1 (maCons (mBin gAdd (mVar 1) (mC (.int 2))) maNil)) (mgN 3) (msSet 4 (mBin gMod (mBin gAdd (mBin gMul (mVar 4) (mC (.int 48271))) (mC (.int 104729))) (mC (.int 2147483629)))))
    (msRet (mBin gFdiv (mBin gMod (mBin gMul (mVar 4) (mVar 4)) (mC (.int 998244353))) (mC (.int 11)))))))
def c_law_mix : List D → Store → Res D := mFun 5 b_law_mix
theorem ok_law_mix {Pr : Program} {w : World} {K : Frag} {mg : Str → Option Value} {base : Heap} (D_law_mix : Def K mg "_law_mix" s_law_mix)
    (B : Blt mg) :
    Can Pr w K mg base "_law_mix" ["_law_cell", "_law_k"] 1 (vSp K mg [.s, .s] (rV K) c_law_mix) := by
  refine vdef (k := 0) (b := b_law_mix) D_law_mix sc_law_mix (fun _ _ _ _ _ _ => bndS fun _ => bndS fun _ => bnd0 rfl) [.s, .s] [.v, .v, .v] rV_ok (fun _ _ _ _ => Rp.non) (body := fun f cdv A outer s H E hr P => ?_)
  refine vss_cons ?_ ?_
  · refine vs_if ?_ ?_ vss_nil
    · refine ts_cmp od_gt (se_var 0) ?_ (nomark _)
      · refine se_oe ?_
        · refine oe_bin od_pow (se_ve ve_int) (se_ve ve_int)
    · refine vss_cons ?_ ?_
      · refine vs_setV (i := 2) sc_law_mix.nd rfl (by first | exact Or.inl rfl | exact Or.inr rfl) (ve_se (se_var 0))
      · refine vss_cons ?_ ?_
        · refine vs_for rfl ?_ (vg_name (i := 3) sc_law_mix.nd rfl (by first | exact Or.inl rfl | exact Or.inr rfl)) ?_
          · refine vi_range1 B.range_ ?_
            · refine ae_s (se_var 1) ae_nil
          · refine vss_one ?_
            · refine vs_setV (i := 2) sc_law_mix.nd rfl (by first | exact Or.inl rfl | exact Or.inr rfl) ?_
              · refine ve_oe ?_
                · refine oe_bin od_fdiv (se_ve (ve_var 2)) ?_
                  · refine se_oe ?_
                    · refine oe_bin od_pow (se_ve ve_int) (se_ve ve_int)
        · refine vss_one ?_
          · refine vs_retV ?_
            · refine ve_oe ?_
              · refine oe_bin od_mod (se_ve (ve_var 2)) ?_
                · refine se_oe ?_
                  · refine oe_bin od_pow (se_ve ve_int) (se_ve ve_int)
  · refine vss_cons ?_ ?_
    · refine vs_setV (i := 4) sc_law_mix.nd rfl (by first | exact Or.inl rfl | exact Or.inr rfl) ?_
      · refine ve_oe ?_
        · refine oe_bin od_add ?_ (se_ve ve_int)
          · refine se_oe ?_
            · refine oe_bin od_mod (se_var 0) (se_ve ve_int)
    · refine vss_cons ?_ ?_
      · refine vs_for rfl ?_ (vg_name (i := 3) sc_law_mix.nd rfl (by first | exact Or.inl rfl | exact Or.inr rfl)) ?_
        · refine vi_range1 B.range_ ?_
          · refine ae_s ?_ ae_nil
            · refine se_oe ?_
              · refine oe_bin od_add (se_var 1) (se_ve ve_int)
        · refine vss_one ?_
          · refine vs_setV (i := 4) sc_law_mix.nd rfl (by first | exact Or.inl rfl | exact Or.inr rfl) ?_
            · refine ve_oe ?_
              · refine oe_bin od_mod ?_ (se_ve ve_int)
                · refine se_oe ?_
                  · refine oe_bin od_add ?_ (se_ve ve_int)
                    · refine se_oe ?_
                      · refine oe_bin od_mul (se_ve (ve_var 4)) (se_ve ve_int)
      · refine vss_one ?_
        · refine vs_retV ?_
          · refine ve_oe ?_
            · refine oe_bin od_fdiv ?_ (se_ve ve_int)
              · refine se_oe ?_
                · refine oe_bin od_mod ?_ (se_ve ve_int)
                  · refine se_oe ?_
                    · refine oe_bin od_mul (se_ve (ve_var 4)) (se_ve (ve_var 4))
abbrev s_law_signs : Stmt := top 19
theorem sc_law_signs : FnScope ["_law_some"] [] (defScope s_law_signs) := ⟨rfl, rfl, rfl, by decide +kernel, rfl, by decide +kernel, by decide +kernel⟩
def b_law_signs : MS :=
    (msSeq (msSet 0 (mC (.str [32, 33, 34, 35, 36, 38, 39, 40, 41, 42, 43, 44, 45, 46, 47, 48, 49, 50, 51, 52, 53, 54, 55, 56, 57, 58, 59, 60, 61, 62, 63, 64, 65, 66, 67, 68, 69, 70, 71, 72, 73, 74, 75, 76, 77, 78, 79, 80, 81, 82, 83, 84, 85, 86, 87, 88, 89, 90])))
    (msRet (mBin gAdd (mVar 0) (mC (.str [91, 92, 93, 94, 95, 96, 97, 98, 99, 100, 101, 102, 103, 104, 105, 106, 107, 108, 109, 110, 111, 112, 113, 114, 115, 116, 117, 118, 119, 120, 121, 122, 123, 124, 125])))))
def c_law_signs : List D → Store → Res D := mFun 1 b_law_signs
theorem ok_law_signs {Pr : Program} {w : World} {K : Frag} {mg : Str → Option Value} {base : Heap} (D_law_signs : Def K mg "_law_signs" s_law_signs)
    (B : Blt mg) :
    Can Pr w K mg base "_law_signs" [] 1 (vSp K mg [] (rV K) c_law_signs) := by
  refine vdef (k := 0) (b := b_law_signs) D_law_signs sc_law_signs (fun _ _ _ _ _ _ => bnd0 rfl) [] [.v] rV_ok (fun _ _ _ _ => Rp.non) (body := fun f cdv A outer s H E hr P => ?_)
  refine vss_cons (vs_setV (i := 0) sc_law_signs.nd rfl (by first | exact Or.inl rfl | exact Or.inr rfl) (ve_str [32, 33, 34, 35, 36, 38, 39, 40, 41, 42, 43, 44, 45, 46, 47, 48, 49, 50, 51, 52, 53, 54, 55, 56, 57, 58, 59, 60, 61, 62, 63, 64, 65, 66, 67, 68, 69, 70, 71, 72, 73, 74, 75, 76, 77, 78, 79, 80, 81, 82, 83, 84, 85, 86, 87, 88, 89, 90])) ?_
  · refine vss_one ?_
    · refine vs_retV ?_
      · refine ve_oe ?_
        · refine oe_bin od_add (se_ve (ve_var 0)) (se_ve (ve_str [91, 92, 93, 94, 95, 96, 97, 98, 99, 100, 101, 102, 103, 104, 105, 106, 107, 108, 109, 110, 111, 112, 113, 114, 115, 116, 117, 118, 119, 120, 121, 122, 123, 124, 125]))
abbrev s_law_truth : Stmt := top 20
theorem sc_law_truth : FnScope ["_law_found", "_law_due_here"] ["_law_found", "_law_due_here"] (defScope s_law_truth) := ⟨rfl, rfl, rfl, by decide +kernel, rfl, by decide +kernel, by decide +kernel⟩
def b_law_truth : MS :=
    (msRet (mAndV (mIsi "bool" (mVar 0)) (mBin gEq (mVar 0) (mVar 1))))
def c_law_truth : List D → Store → Res D := mFun 2 b_law_truth
theorem ok_law_truth {Pr : Program} {w : World} {K : Frag} {mg : Str → Option Value} {base : Heap} (D_law_truth : Def K mg "_law_truth" s_law_truth)
    (B : Blt mg) :
    Can Pr w K mg base "_law_truth" ["_law_found", "_law_due_here"] 1 (vSp K mg [.s, .s] (rV K) c_law_truth) := by
  refine vdef (k := 0) (b := b_law_truth) D_law_truth sc_law_truth (fun _ _ _ _ _ _ => bndS fun _ => bndS fun _ => bnd0 rfl) [.s, .s] [] rV_ok (fun _ _ _ _ => Rp.non) (body := fun f cdv A outer s H E hr P => ?_)
  refine vss_one ?_
  · refine vs_retV ?_
    · refine ve_and ?_ ?_
      · refine ve_oe (oe_isi "bool" (hb := bt_bool) B.isinstance_ B.bool_ (se_var 0))
      · refine ve_one ?_
        · refine ve_oe ?_
          · refine oe_cmp (od_eq hr) (se_var 0) (se_var 1) (nomark _)
abbrev s_law_due : Stmt := top 21
theorem sc_law_due : FnScope ["_law_text_here", "_law_sign"] ["_law_text_here"] (defScope s_law_due) := ⟨rfl, rfl, rfl, by decide +kernel, rfl, by decide +kernel, by decide +kernel⟩
def b_law_due : MS :=
    (msSeq (msIf (mtOr (mTest (mBin gEq (mVar 0) (mC (.str [])))) (mTest (mBin gGt (mCallB gLen (maCons (mVar 0) maNil)) (mC (.int 6))))) (msRet (mC (.bl false))) msNil)
    (msSeq (msFor (mIter (mVar 0)) (mgN 1) (msIf (mTest (mBin (gIn true) (mVar 1) (mC (.str [48, 49, 50, 51, 52, 53, 54, 55, 56, 57])))) (msRet (mC (.bl false))) msNil))
    (msRet (mOrV (mBin gNe (mBin gIx (mVar 0) (mC (.int 0))) (mC (.str [48]))) (mBin gEq (mVar 0) (mC (.str [48])))))))
def c_law_due : List D → Store → Res D := mFun 2 b_law_due
theorem ok_law_due {Pr : Program} {w : World} {K : Frag} {mg : Str → Option Value} {base : Heap} (D_law_due : Def K mg "_law_due" s_law_due)
    (B : Blt mg) :
    Can Pr w K mg base "_law_due" ["_law_text_here"] 1 (vSp K mg [.s] (rV K) c_law_due) := by
  refine vdef (k := 0) (b := b_law_due) D_law_due sc_law_due (fun _ _ _ _ _ _ => bndS fun _ => bnd0 rfl) [.s] [.v] rV_ok (fun _ _ _ _ => Rp.non) (body := fun f cdv A outer s H E hr P => ?_)
  refine vss_cons ?_ ?_
  · refine vs_if ?_ ?_ vss_nil
    · refine ts_w ?_
      · refine tw_or ?_ ?_
        · refine ts_cmp (od_eq hr) (se_var 0) (se_ve (ve_str [])) (nomark _)
        · refine tw_or1 ?_
          · refine ts_cmp od_gt ?_ (se_ve ve_int) (nomark _)
            · refine se_oe ?_
              · refine oe_callB (ms := [.s]) (hv := bb_len) cd_len B.len_ ?_
                · refine ae_s (se_var 0) ae_nil
    · refine vss_one (vs_retV ve_bl)
  · refine vss_cons ?_ ?_
    · refine vs_for rfl (vi_any (we_var 0)) (vg_name (i := 1) sc_law_due.nd rfl (by first | exact Or.inl rfl | exact Or.inr rfl)) ?_
      · refine vss_one ?_
        · refine vs_if ?_ ?_ vss_nil
          · refine ts_cmp od_notin (se_ve (ve_var 1)) (se_ve (ve_str [48, 49, 50, 51, 52, 53, 54, 55, 56, 57])) (by with_unfolding_all rfl)
          · refine vss_one (vs_retV ve_bl)
    · refine vss_one ?_
      · refine vs_retV ?_
        · refine ve_or ?_ ?_
          · refine ve_oe ?_
            · refine oe_cmp (od_ne hr) ?_ (se_ve (ve_str [48])) (nomark _)
              · refine se_ve ?_
                · refine ve_ix (se_var 0) (se_ve ve_int)
          · refine ve_one ?_
            · refine ve_oe ?_
              · refine oe_cmp (od_eq hr) (se_var 0) (se_ve (ve_str [48])) (nomark _)
abbrev s_law_text : Stmt := top 22
theorem sc_law_text : FnScope ["_law_cell", "_law_size", "_law_way", "_law_text_here", "_law_at"] ["_law_cell"] (defScope s_law_text) := ⟨rfl, rfl, rfl, by decide +kernel, rfl, by decide +kernel, by decide +kernel⟩
def b_law_text : MS :=
    (msSeq (msSet 1 (mBin gMod (mCall c_law_mix (maCons (mVar 0) (maCons (mC (.int 0)) maNil))) (mC (.int 9))))
    (msSeq (msSet 2 (mBin gMod (mCall c_law_mix (maCons (mVar 0) (maCons (mC (.int 1)) maNil))) (mC (.int 6))))
    (msSeq (msSet 3 (mJoin (mComp (mRng1 (maCons (mVar 1) maNil)) 1 [0] (mgN 0) mYes (mBin gIx (mC (.str [48, 49, 50, 51, 52, 53, 54, 55, 56, 57])) (mBin gMod (mCall c_law_mix (maCons (mVar 1) (maCons (mBin gAdd (mC (.int 2)) (mVar 0)) maNil))) (mC (.int 10)))))))
    (msSeq (msSet 4 (mBin gMod (mCall c_law_mix (maCons (mVar 0) (maCons (mC (.int 10)) maNil))) (mBin gAdd (mVar 1) (mC (.int 1)))))
    (msSeq (msIf (mTest (mBin gEq (mVar 2) (mC (.int 0)))) (msRet (mBin gAdd (mBin gAdd (mSl (mVar 3) moN (moS (mVar 4))) (mBin gIx (mCall c_law_signs maNil) (mBin gMod (mCall c_law_mix (maCons (mVar 0) (maCons (mC (.int 11)) maNil))) (mC (.int 93))))) (mSl (mVar 3) (moS (mVar 4)) moN))) msNil)
    (msSeq (msIf (mTest (mBin gEq (mVar 2) (mC (.int 1)))) (msRet (mBin gAdd (mC (.str [48])) (mSl (mVar 3) moN (moS (mBin gMod (mCall c_law_mix (maCons (mVar 0) (maCons (mC (.int 11)) maNil))) (mC (.int 3))))))) msNil)
    (msSeq (msIf (mTest (mBin gEq (mVar 2) (mC (.int 2)))) (msRet (mCallB gStr (maCons (mBin gMod (mCall c_law_mix (maCons (mVar 0) (maCons (mC (.int 11)) maNil))) (mBin gIx (mLst (maCons (mC (.int 10)) (maCons (mC (.int 1000)) (maCons (mBin gPow (mC (.int 10)) (mC (.int 6))) (maCons (mBin gPow (mC (.int 10)) (mC (.int 7))) maNil))))) (mBin gMod (mCall c_law_mix (maCons (mVar 0) (maCons (mC (.int 12)) maNil))) (mC (.int 4))))) maNil))) msNil)
    (msSeq (msIf (mTest (mBin gEq (mVar 2) (mC (.int 3)))) (msRet (mBin gIx (mLst (maCons (mBin gAdd (mC (.str [45])) (mVar 3)) (maCons (mBin gAdd (mC (.str [43])) (mVar 3)) (maCons (mBin gAdd (mC (.str [32])) (mVar 3)) (maCons (mBin gAdd (mVar 3) (mC (.str [32]))) (maCons (mBin gAdd (mVar 3) (mC (.str [10]))) maNil)))))) (mBin gMod (mCall c_law_mix (maCons (mVar 0) (maCons (mC (.int 11)) maNil))) (mC (.int 5))))) msNil)
    (msRet (mVar 3))))))))))
def c_law_text : List D → Store → Res D := mFun 5 b_law_text
theorem ok_law_text {Pr : Program} {w : World} {K : Frag} {mg : Str → Option Value} {base : Heap} (D_law_text : Def K mg "_law_text" s_law_text)
    (B : Blt mg)
    (C_law_mix : Can Pr w K mg base "_law_mix" ["_law_cell", "_law_k"] 1 (vSp K mg [.s, .s] (rV K) c_law_mix))
    (C_law_signs : Can Pr w K mg base "_law_signs" [] 1 (vSp K mg [] (rV K) c_law_signs)) :
    Can Pr w K mg base "_law_text" ["_law_cell"] 2 (vSp K mg [.s] (rV K) c_law_text) := by
  refine vdef (k := 1) (b := b_law_text) D_law_text sc_law_text (fun _ _ _ _ _ _ => bndS fun _ => bnd0 rfl) [.s] [.v, .v, .v, .v] rV_ok (fun _ _ _ _ => Rp.non) (body := fun f cdv A outer s H E hr P => ?_)
  refine vss_cons ?_ ?_
  · refine vs_setV (i := 1) sc_law_text.nd rfl (by first | exact Or.inl rfl | exact Or.inr rfl) ?_
    · refine ve_oe ?_
      · refine oe_bin od_mod ?_ (se_ve ve_int)
        · refine se_ve ?_
          · refine ve_call C_law_mix (hr.mono (by decide)) ?_
            · refine ae_s (se_var 0) ?_
              · refine ae_s (se_ve ve_int) ae_nil
  · refine vss_cons ?_ ?_
    · refine vs_setV (i := 2) sc_law_text.nd rfl (by first | exact Or.inl rfl | exact Or.inr rfl) ?_
      · refine ve_oe ?_
        · refine oe_bin od_mod ?_ (se_ve ve_int)
          · refine se_ve ?_
            · refine ve_call C_law_mix (hr.mono (by decide)) ?_
              · refine ae_s (se_var 0) ?_
                · refine ae_s (se_ve ve_int) ae_nil
    · refine vss_cons ?_ ?_
      · refine vs_setV (i := 3) sc_law_text.nd rfl (by first | exact Or.inl rfl | exact Or.inr rfl) ?_
        · refine ve_oe ?_
          · refine oe_join ?_
            · refine se_oe ?_
              · refine oe_comp (defScope s_law_text) ["_law_cell", "_law_size", "_law_way", "_law_text_here", "_law_at"] ["_law_k"] [0] rfl ?_ (fun _ _ _ _ P => ?_) (fun _ _ _ _ P => ?_) (fun _ _ _ _ P => ?_)
                · refine vic_vi ?_
                  · refine vi_range1 B.range_ ?_
                    · refine ae_s (se_ve (ve_var 1)) ae_nil
                · exact vg_name (i := 0) (show (compN ["_law_cell", "_law_size", "_law_way", "_law_text_here", "_law_at"] ["_law_k"] [0]).Nodup by decide +kernel) rfl (by first | exact Or.inl rfl | exact Or.inr rfl)
                · exact vif_nil
                · refine ve_ix (se_ve (ve_str [48, 49, 50, 51, 52, 53, 54, 55, 56, 57])) ?_
                  · refine se_oe ?_
                    · refine oe_bin od_mod ?_ (se_ve ve_int)
                      · refine se_ve ?_
                        · refine ve_call C_law_mix (hr.mono (by decide)) ?_
                          · refine ae_s (se_var 1) ?_
                            · refine ae_s ?_ ae_nil
                              · refine se_oe ?_
                                · refine oe_bin od_add (se_ve ve_int) (se_ve (ve_var 0))
      · refine vss_cons ?_ ?_
        · refine vs_setV (i := 4) sc_law_text.nd rfl (by first | exact Or.inl rfl | exact Or.inr rfl) ?_
          · refine ve_oe ?_
            · refine oe_bin od_mod ?_ ?_
              · refine se_ve ?_
                · refine ve_call C_law_mix (hr.mono (by decide)) ?_
                  · refine ae_s (se_var 0) ?_
                    · refine ae_s (se_ve ve_int) ae_nil
              · refine se_oe ?_
                · refine oe_bin od_add (se_ve (ve_var 1)) (se_ve ve_int)
        · refine vss_cons ?_ ?_
          · refine vs_if ?_ ?_ vss_nil
            · refine ts_cmp (od_eq hr) (se_ve (ve_var 2)) (se_ve ve_int) (nomark _)
            · refine vss_one ?_
              · refine vs_retV ?_
                · refine ve_oe ?_
                  · refine oe_bin od_add ?_ ?_
                    · refine se_oe ?_
                      · refine oe_bin od_add ?_ ?_
                        · refine se_oe ?_
                          · refine oe_slice (se_ve (ve_var 3)) vo_none (vo_some (ve_var 4))
                        · refine se_ve ?_
                          · refine ve_ix (se_ve (ve_call0 C_law_signs (hr.mono (by decide)))) ?_
                            · refine se_oe ?_
                              · refine oe_bin od_mod ?_ (se_ve ve_int)
                                · refine se_ve ?_
                                  · refine ve_call C_law_mix (hr.mono (by decide)) ?_
                                    · refine ae_s (se_var 0) ?_
                                      · refine ae_s (se_ve ve_int) ae_nil
                    · refine se_oe ?_
                      · refine oe_slice (se_ve (ve_var 3)) (vo_some (ve_var 4)) vo_none
          · refine vss_cons ?_ ?_
            · refine vs_if ?_ ?_ vss_nil
              · refine ts_cmp (od_eq hr) (se_ve (ve_var 2)) (se_ve ve_int) (nomark _)
              · refine vss_one ?_
                · refine vs_retV ?_
                  · refine ve_oe ?_
                    · refine oe_bin od_add (se_ve (ve_str [48])) ?_
                      · refine se_oe ?_
                        · refine oe_slice (se_ve (ve_var 3)) vo_none ?_
                          · refine vo_some ?_
                            · refine ve_oe ?_
                              · refine oe_bin od_mod ?_ (se_ve ve_int)
                                · refine se_ve ?_
                                  · refine ve_call C_law_mix (hr.mono (by decide)) ?_
                                    · refine ae_s (se_var 0) ?_
                                      · refine ae_s (se_ve ve_int) ae_nil
            · refine vss_cons ?_ ?_
              · refine vs_if ?_ ?_ vss_nil
                · refine ts_cmp (od_eq hr) (se_ve (ve_var 2)) (se_ve ve_int) (nomark _)
                · refine vss_one ?_
                  · refine vs_retV ?_
                    · refine ve_oe ?_
                      · refine oe_callT (ms := [.s]) (hv := bt_str) cd_str B.str_ ?_
                        · refine ae_s ?_ ae_nil
                          · refine se_oe ?_
                            · refine oe_bin od_mod ?_ ?_
                              · refine se_ve ?_
                                · refine ve_call C_law_mix (hr.mono (by decide)) ?_
                                  · refine ae_s (se_var 0) ?_
                                    · refine ae_s (se_ve ve_int) ae_nil
                              · refine se_ve ?_
                                · refine ve_ix ?_ ?_
                                  · refine se_oe ?_
                                    · refine oe_lst 4 ?_
                                      · refine ae_v ve_int ?_
                                        · refine ae_v ve_int ?_
                                          · refine ae_v ?_ ?_
                                            · refine ve_oe ?_
                                              · refine oe_bin od_pow (se_ve ve_int) (se_ve ve_int)
                                            · refine ae_v ?_ ae_nil
                                              · refine ve_oe ?_
                                                · refine oe_bin od_pow (se_ve ve_int) (se_ve ve_int)
                                  · refine se_oe ?_
                                    · refine oe_bin od_mod ?_ (se_ve ve_int)
                                      · refine se_ve ?_
                                        · refine ve_call C_law_mix (hr.mono (by decide)) ?_
                                          · refine ae_s (se_var 0) ?_
                                            · refine ae_s (se_ve ve_int) ae_nil
              · refine vss_cons ?_ ?_
                · refine vs_if ?_ ?_ vss_nil
                  · refine ts_cmp (od_eq hr) (se_ve (ve_var 2)) (se_ve ve_int) (nomark _)
                  · refine vss_one ?_
                    · refine vs_retV ?_
                      · refine ve_ix ?_ ?_
                        · refine se_oe ?_
                          · refine oe_lst 5 ?_
                            · refine ae_v ?_ ?_
                              · refine ve_oe ?_
                                · refine oe_bin od_add (se_ve (ve_str [45])) (se_ve (ve_var 3))
                              · refine ae_v ?_ ?_
                                · refine ve_oe ?_
                                  · refine oe_bin od_add (se_ve (ve_str [43])) (se_ve (ve_var 3))
                                · refine ae_v ?_ ?_
                                  · refine ve_oe ?_
                                    · refine oe_bin od_add (se_ve (ve_str [32])) (se_ve (ve_var 3))
                                  · refine ae_v ?_ ?_
                                    · refine ve_oe ?_
                                      · refine oe_bin od_add (se_ve (ve_var 3)) (se_ve (ve_str [32]))
                                    · refine ae_v ?_ ae_nil
                                      · refine ve_oe ?_
                                        · refine oe_bin od_add (se_ve (ve_var 3)) (se_ve (ve_str [10]))
                        · refine se_oe ?_
                          · refine oe_bin od_mod ?_ (se_ve ve_int)
                            · refine se_ve ?_
                              · refine ve_call C_law_mix (hr.mono (by decide)) ?_
                                · refine ae_s (se_var 0) ?_
                                  · refine ae_s (se_ve ve_int) ae_nil
                · refine vss_one (vs_retV (ve_var 3))
abbrev s_law_words : Stmt := top 23
theorem sc_law_words : FnScope ["_law_cell", "_law_words_here", "_law_k", "_law_start", "_law_word"] ["_law_cell"] (defScope s_law_words) := ⟨rfl, rfl, rfl, by decide +kernel, rfl, by decide +kernel, by decide +kernel⟩
def b_law_words : MS :=
    (msSeq (msSet 1 (mLst maNil))
    (msSeq (msFor (mRng1 (maCons (mBin gMod (mCall c_law_mix (maCons (mVar 0) (maCons (mC (.int 13)) maNil))) (mC (.int 7))) maNil)) (mgN 2) (msSeq (msSet 3 (mBin gAdd (mC (.int 14)) (mBin gMul (mC (.int 4)) (mVar 2))))
    (msSeq (msSet 4 (mBin gMul (mBin gIx (mCall c_law_signs maNil) (mBin gAdd (mC (.int 1)) (mBin gMod (mCall c_law_mix (maCons (mVar 0) (maCons (mVar 3) maNil))) (mC (.int 92))))) (mBin gAdd (mC (.int 1)) (mBin gMod (mCall c_law_mix (maCons (mVar 0) (maCons (mBin gAdd (mVar 3) (mC (.int 1))) maNil))) (mC (.int 4))))))
    (msApp 1 (mBin gAdd (mVar 4) (mBin gIx (mLst (maCons (mC (.str [])) (maCons (mC (.str [10])) (maCons (mC (.str [55])) (maCons (mC (.str [97, 9, 98])) maNil))))) (mBin gMod (mCall c_law_mix (maCons (mVar 0) (maCons (mBin gAdd (mVar 3) (mC (.int 2))) maNil))) (mC (.int 4)))))))))
    (msRet (mVar 1))))
def c_law_words : List D → Store → Res D := mFun 5 b_law_words
theorem ok_law_words {Pr : Program} {w : World} {K : Frag} {mg : Str → Option Value} {base : Heap} (D_law_words : Def K mg "_law_words" s_law_words)
    (B : Blt mg)
    (C_law_mix : Can Pr w K mg base "_law_mix" ["_law_cell", "_law_k"] 1 (vSp K mg [.s, .s] (rV K) c_law_mix))
    (C_law_signs : Can Pr w K mg base "_law_signs" [] 1 (vSp K mg [] (rV K) c_law_signs)) :
    Can Pr w K mg base "_law_words" ["_law_cell"] 2 (vSp K mg [.s] (rO K) c_law_words) := by
  refine vdef (k := 1) (b := b_law_words) D_law_words sc_law_words (fun _ _ _ _ _ _ => bndS fun _ => bnd0 rfl) [.s] [.o, .v, .v, .v] rO_ok (fun _ _ _ _ => .inl ⟨rfl, Rp.non⟩) (body := fun f cdv A outer s H E hr P => ?_)
  refine vss_cons ?_ ?_
  · refine vs_setO (i := 1) sc_law_words.nd rfl (by first | exact Or.inl rfl | exact Or.inr rfl) (oe_lst 0 ae_nil)
  · refine vss_cons ?_ (vss_one (vs_retX 1))
    · refine vs_for rfl ?_ (vg_name (i := 2) sc_law_words.nd rfl (by first | exact Or.inl rfl | exact Or.inr rfl)) ?_
      · refine vi_range1 B.range_ ?_
        · refine ae_s ?_ ae_nil
          · refine se_oe ?_
            · refine oe_bin od_mod ?_ (se_ve ve_int)
              · refine se_ve ?_
                · refine ve_call C_law_mix (hr.mono (by decide)) ?_
                  · refine ae_s (se_var 0) ?_
                    · refine ae_s (se_ve ve_int) ae_nil
      · refine vss_cons ?_ ?_
        · refine vs_setV (i := 3) sc_law_words.nd rfl (by first | exact Or.inl rfl | exact Or.inr rfl) ?_
          · refine ve_oe ?_
            · refine oe_bin od_add (se_ve ve_int) ?_
              · refine se_oe ?_
                · refine oe_bin od_mul (se_ve ve_int) (se_ve (ve_var 2))
        · refine vss_cons ?_ ?_
          · refine vs_setV (i := 4) sc_law_words.nd rfl (by first | exact Or.inl rfl | exact Or.inr rfl) ?_
            · refine ve_oe ?_
              · refine oe_bin od_mul ?_ ?_
                · refine se_ve ?_
                  · refine ve_ix (se_ve (ve_call0 C_law_signs (hr.mono (by decide)))) ?_
                    · refine se_oe ?_
                      · refine oe_bin od_add (se_ve ve_int) ?_
                        · refine se_oe ?_
                          · refine oe_bin od_mod ?_ (se_ve ve_int)
                            · refine se_ve ?_
                              · refine ve_call C_law_mix (hr.mono (by decide)) ?_
                                · refine ae_s (se_var 0) ?_
                                  · refine ae_s (se_ve (ve_var 3)) ae_nil
                · refine se_oe ?_
                  · refine oe_bin od_add (se_ve ve_int) ?_
                    · refine se_oe ?_
                      · refine oe_bin od_mod ?_ (se_ve ve_int)
                        · refine se_ve ?_
                          · refine ve_call C_law_mix (hr.mono (by decide)) ?_
                            · refine ae_s (se_var 0) ?_
                              · refine ae_s ?_ ae_nil
                                · refine se_oe ?_
                                  · refine oe_bin od_add (se_ve (ve_var 3)) (se_ve ve_int)
          · refine vss_one ?_
            · refine vs_append 1 ?_
              · refine ve_oe ?_
                · refine oe_bin od_add (se_ve (ve_var 4)) ?_
                  · refine se_ve ?_
                    · refine ve_ix ?_ ?_
                      · refine se_oe ?_
                        · refine oe_lst 4 ?_
                          · refine ae_v (ve_str []) ?_
                            · refine ae_v (ve_str [10]) ?_
                              · refine ae_v (ve_str [55]) ?_
                                · refine ae_v (ve_str [97, 9, 98]) ae_nil
                      · refine se_oe ?_
                        · refine oe_bin od_mod ?_ (se_ve ve_int)
                          · refine se_ve ?_
                            · refine ve_call C_law_mix (hr.mono (by decide)) ?_
                              · refine ae_s (se_var 0) ?_
                                · refine ae_s ?_ ae_nil
                                  · refine se_oe ?_
                                    · refine oe_bin od_add (se_ve (ve_var 3)) (se_ve ve_int)
abbrev s_law_refused : Stmt := top 24
theorem sc_law_refused : FnScope ["_law_thing", "e"] ["_law_thing"] (defScope s_law_refused) := ⟨rfl, rfl, rfl, by decide +kernel, rfl, by decide +kernel, by decide +kernel⟩
def b_law_refused : MS :=
    (msSeq (msTry c_words_of (maCons (mVar 0) maNil) (hdC "NoRow"))
    (msRet (mC (.bl false))))
def c_law_refused : List D → Store → Res D := mFun 2 b_law_refused
theorem ok_law_refused {Pr : Program} {w : World} {K : Frag} {mg : Str → Option Value} {base : Heap} (D_law_refused : Def K mg "_law_refused" s_law_refused)
    (B : Blt mg)
    (RF : Refus K mg "OutError" "NoRow" ["NoName", "NoHand", "Twice", "Closed", "NoRoll", "NoCell", "NoRoom", "NoSign", "NoSize"])
    (C_words_of : CanX Pr w K mg base "words_of" ["row"] 1 (vSpX K mg [.s] (rO K) c_words_of)) :
    Can Pr w K mg base "_law_refused" ["_law_thing"] 2 (vSp K mg [.s] (rV K) c_law_refused) := by
  refine vdef (k := 1) (b := b_law_refused) D_law_refused sc_law_refused (fun _ _ _ _ _ _ => bndS fun _ => bnd0 rfl) [.s] [.v] rV_ok (fun _ _ _ _ => Rp.non) (body := fun f cdv A outer s H E hr P => ?_)
  refine vss_cons ?_ ?_
  · refine vs_refus (i := 1) (ns := ["NoName", "NoHand", "Twice", "Closed", "NoRoll", "NoCell", "NoRoom", "NoSign", "NoSize"]) (fun _ _ _ _ => Rp.bl) RF C_words_of (hr.mono (by decide)) sc_law_refused.nd B.isinstance_ (fun E => ?_) (nmv_cons (nmv_cons (nmv_cons (nmv_cons (nmv_cons (nmv_cons (nmv_cons (nmv_cons (nmv_cons nmv_nil)))))))))
    · refine ae_s (se_var 0) ae_nil
  · refine vss_one (vs_retV ve_bl)
abbrev s_law_row_right : Stmt := top 25
theorem sc_law_row_right : FnScope ["_law_words_here", "_law_cell", "_law_row", "_law_found", "_law_at"] ["_law_words_here", "_law_cell"] (defScope s_law_row_right) := ⟨rfl, rfl, rfl, by decide +kernel, rfl, by decide +kernel, by decide +kernel⟩
def b_law_row_right : MS :=
    (msSeq (msSet 2 (mGlue [32] (mVar 0)))
    (msSeq (msIf (mTest (mBin gEq (mVar 0) (mLst maNil))) (msRet (mCall c_law_refused (maCons (mVar 2) maNil))) msNil)
    (msSeq (msSet 3 (mCall c_words_of (maCons (mVar 2) maNil)))
    (msSeq (msIf (mtOr (mtNot (mTru (mIsi "list" (mVar 3)))) (mTest (mBin gNe (mVar 3) (mVar 0)))) (msRet (mC (.bl false))) msNil)
    (msSeq (msApp 3 (mC (.str [122])))
    (msSeq (msSet 4 (mBin gIx (mLst (maCons (mC (.int 0)) (maCons (mCallB gLen (maCons (mVar 2) maNil)) (maCons (mFind (mVar 2) (mC (.str [32]))) (maCons (mCallB gLen (maCons (mBin gIx (mVar 0) (mC (.int 0))) maNil)) maNil))))) (mBin gMod (mCall c_law_mix (maCons (mVar 1) (maCons (mC (.int 39)) maNil))) (mC (.int 4)))))
    (msSeq (msIf (mtAnd (mTest (mBin gGe (mVar 4) (mC (.int 0)))) (mtNot (mTru (mCall c_law_refused (maCons (mBin gAdd (mBin gAdd (mSl (mVar 2) moN (moS (mVar 4))) (mC (.str [32]))) (mSl (mVar 2) (moS (mVar 4)) moN)) maNil))))) (msRet (mC (.bl false))) msNil)
    (msRet (mBin gEq (mCall c_words_of (maCons (mVar 2) maNil)) (mVar 0))))))))))
def c_law_row_right : List D → Store → Res D := mFun 5 b_law_row_right
theorem ok_law_row_right {Pr : Program} {w : World} {K : Frag} {mg : Str → Option Value} {base : Heap} (D_law_row_right : Def K mg "_law_row_right" s_law_row_right)
    (B : Blt mg)
    (C_law_refused : Can Pr w K mg base "_law_refused" ["_law_thing"] 2 (vSp K mg [.s] (rV K) c_law_refused))
    (C_words_of : Can Pr w K mg base "words_of" ["row"] 1 (vSp K mg [.s] (rO K) c_words_of))
    (C_law_mix : Can Pr w K mg base "_law_mix" ["_law_cell", "_law_k"] 1 (vSp K mg [.s, .s] (rV K) c_law_mix)) :
    Can Pr w K mg base "_law_row_right" ["_law_words_here", "_law_cell"] 3 (vSp K mg [.s, .s] (rV K) c_law_row_right) := by
  refine vdef (k := 2) (b := b_law_row_right) D_law_row_right sc_law_row_right (fun _ _ _ _ _ _ => bndS fun _ => bndS fun _ => bnd0 rfl) [.s, .s] [.v, .o, .v] rV_ok (fun _ _ _ _ => Rp.non) (body := fun f cdv A outer s H E hr P => ?_)
  refine vss_cons ?_ ?_
  · refine vs_setV (i := 2) sc_law_row_right.nd rfl (by first | exact Or.inl rfl | exact Or.inr rfl) ?_
    · refine ve_oe (oe_glue [32] (se_var 0))
  · refine vss_cons ?_ ?_
    · refine vs_if ?_ ?_ vss_nil
      · refine ts_cmp (od_eq hr) (se_var 0) ?_ (nomark _)
        · refine se_oe (oe_lst 0 ae_nil)
      · refine vss_one ?_
        · refine vs_retV ?_
          · refine ve_call C_law_refused (hr.mono (by decide)) ?_
            · refine ae_s (se_ve (ve_var 2)) ae_nil
    · refine vss_cons ?_ ?_
      · refine vs_setO (i := 3) sc_law_row_right.nd rfl (by first | exact Or.inl rfl | exact Or.inr rfl) ?_
        · refine oe_call C_words_of (hr.mono (by decide)) ?_
          · refine ae_s (se_ve (ve_var 2)) ae_nil
      · refine vss_cons ?_ ?_
        · refine vs_if ?_ ?_ vss_nil
          · refine ts_w ?_
            · refine tw_or ?_ ?_
              · refine ts_not ?_
                · refine ts_val ?_
                  · refine se_oe (oe_isi "list" (hb := bt_list) B.isinstance_ B.list_ (se_var 3))
              · refine tw_or1 ?_
                · refine ts_cmp (od_ne hr) (se_var 3) (se_var 0) (nomark _)
          · refine vss_one (vs_retV ve_bl)
        · refine vss_cons (vs_append 3 (ve_str [122])) ?_
          · refine vss_cons ?_ ?_
            · refine vs_setV (i := 4) sc_law_row_right.nd rfl (by first | exact Or.inl rfl | exact Or.inr rfl) ?_
              · refine ve_ix ?_ ?_
                · refine se_oe ?_
                  · refine oe_lst 4 ?_
                    · refine ae_v ve_int ?_
                      · refine ae_v ?_ ?_
                        · refine ve_oe ?_
                          · refine oe_callB (ms := [.s]) (hv := bb_len) cd_len B.len_ ?_
                            · refine ae_s (se_ve (ve_var 2)) ae_nil
                        · refine ae_v ?_ ?_
                          · refine ve_oe ?_
                            · refine oe_find (ve_var 2) (ve_str [32])
                          · refine ae_v ?_ ae_nil
                            · refine ve_oe ?_
                              · refine oe_callB (ms := [.s]) (hv := bb_len) cd_len B.len_ ?_
                                · refine ae_s ?_ ae_nil
                                  · refine se_ve ?_
                                    · refine ve_ix (se_var 0) (se_ve ve_int)
                · refine se_oe ?_
                  · refine oe_bin od_mod ?_ (se_ve ve_int)
                    · refine se_ve ?_
                      · refine ve_call C_law_mix (hr.mono (by decide)) ?_
                        · refine ae_s (se_var 1) ?_
                          · refine ae_s (se_ve ve_int) ae_nil
            · refine vss_cons ?_ ?_
              · refine vs_if ?_ ?_ vss_nil
                · refine ts_w ?_
                  · refine tw_and ?_ ?_
                    · refine ts_cmp od_ge (se_ve (ve_var 4)) (se_ve ve_int) (nomark _)
                    · refine tw_and1 ?_
                      · refine ts_not ?_
                        · refine ts_val ?_
                          · refine se_ve ?_
                            · refine ve_call C_law_refused (hr.mono (by decide)) ?_
                              · refine ae_s ?_ ae_nil
                                · refine se_oe ?_
                                  · refine oe_bin od_add ?_ ?_
                                    · refine se_oe ?_
                                      · refine oe_bin od_add ?_ (se_ve (ve_str [32]))
                                        · refine se_oe ?_
                                          · refine oe_slice (se_ve (ve_var 2)) vo_none (vo_some (ve_var 4))
                                    · refine se_oe ?_
                                      · refine oe_slice (se_ve (ve_var 2)) (vo_some (ve_var 4)) vo_none
                · refine vss_one (vs_retV ve_bl)
              · refine vss_one ?_
                · refine vs_retV ?_
                  · refine ve_oe ?_
                    · refine oe_cmp (od_eq hr) ?_ (se_var 0) (nomark _)
                      · refine se_oe ?_
                        · refine oe_call C_words_of (hr.mono (by decide)) ?_
                          · refine ae_s (se_ve (ve_var 2)) ae_nil
abbrev s_law : Stmt := top 26
theorem sc_law : FnScope ["_law_script", "_law_cell", "_law_text_here", "_law_thing"] ["_law_script"] (defScope s_law) := ⟨rfl, rfl, rfl, by decide +kernel, rfl, by decide +kernel, by decide +kernel⟩
def b_law : MS :=
    (msSeq (msFor (mIter (mBin gAdd (mSl (mVar 0) moN (moS (mC (.int 60)))) (mLst (maCons (mC (.int 0)) maNil)))) (mgN 1) (msSeq (msSet 2 (mCall c_law_text (maCons (mVar 1) maNil)))
    (msSeq (msIf (mtNot (mTru (mCall c_law_truth (maCons (mCall c_is_figures (maCons (mVar 2) maNil)) (maCons (mCall c_law_due (maCons (mVar 2) maNil)) maNil))))) (msRet (mC (.bl false))) msNil)
    (msIf (mtNot (mTru (mCall c_law_row_right (maCons (mCall c_law_words (maCons (mVar 1) maNil)) (maCons (mVar 1) maNil))))) (msRet (mC (.bl false))) msNil))))
    (msSeq (msFor (mIter (mLst (maCons (mC .non) (maCons (mC (.int 5)) (maCons (mC (.int 0)) (maCons (mC (.bl true)) (maCons (mLst (maCons (mC (.str [53])) maNil)) (maCons (mTup (maCons (mC (.str [53])) maNil)) (maCons (mC (.dic [] [])) (maCons (mLst maNil) maNil)))))))))) (mgN 3) (msIf (mtOr (mtNot (mTru (mCall c_law_truth (maCons (mCall c_is_figures (maCons (mVar 3) maNil)) (maCons (mC (.bl false)) maNil))))) (mtNot (mTru (mCall c_law_refused (maCons (mVar 3) maNil))))) (msRet (mC (.bl false))) msNil))
    (msSeq (msFor (mIter (mLst (maCons (mC (.str [48])) (maCons (mC (.str [57, 57, 57, 57, 57, 57])) (maCons (mC (.str [49])) maNil))))) (mgN 2) (msIf (mTest (mBin (gIs true) (mCall c_is_figures (maCons (mVar 2) maNil)) (mC (.bl true)))) (msRet (mC (.bl false))) msNil))
    (msRet (mAndV (mCall c_law_refused (maCons (mC (.str [])) maNil)) (mAndV (mCall c_law_refused (maCons (mC (.str [32])) maNil)) (mBin gEq (mCall c_words_of (maCons (mC (.str [97])) maNil)) (mLst (maCons (mC (.str [97])) maNil)))))))))
def c_law : List D → Store → Res D := mFun 4 b_law
theorem ok_law {Pr : Program} {w : World} {K : Frag} {mg : Str → Option Value} {base : Heap} (D_law : Def K mg "law" s_law)
    (B : Blt mg)
    (C_law_text : Can Pr w K mg base "_law_text" ["_law_cell"] 2 (vSp K mg [.s] (rV K) c_law_text))
    (C_law_truth : Can Pr w K mg base "_law_truth" ["_law_found", "_law_due_here"] 1 (vSp K mg [.s, .s] (rV K) c_law_truth))
    (C_is_figures : Can Pr w K mg base "is_figures" ["thing"] 1 (vSp K mg [.s] (rV K) c_is_figures))
    (C_law_due : Can Pr w K mg base "_law_due" ["_law_text_here"] 1 (vSp K mg [.s] (rV K) c_law_due))
    (C_law_row_right : Can Pr w K mg base "_law_row_right" ["_law_words_here", "_law_cell"] 3 (vSp K mg [.s, .s] (rV K) c_law_row_right))
    (C_law_words : Can Pr w K mg base "_law_words" ["_law_cell"] 2 (vSp K mg [.s] (rO K) c_law_words))
    (C_law_refused : Can Pr w K mg base "_law_refused" ["_law_thing"] 2 (vSp K mg [.s] (rV K) c_law_refused))
    (C_words_of : Can Pr w K mg base "words_of" ["row"] 1 (vSp K mg [.s] (rO K) c_words_of)) :
    Can Pr w K mg base "law" ["_law_script"] 4 (vSp K mg [.s] (rV K) c_law) := by
  refine vdef (k := 3) (b := b_law) D_law sc_law (fun _ _ _ _ _ _ => bndS fun _ => bnd0 rfl) [.s] [.v, .v, .v] rV_ok (fun _ _ _ _ => Rp.non) (body := fun f cdv A outer s H E hr P => ?_)
  refine vss_cons ?_ ?_
  · refine vs_for rfl ?_ (vg_name (i := 1) sc_law.nd rfl (by first | exact Or.inl rfl | exact Or.inr rfl)) ?_
    · refine vi_any ?_
      · refine we_ve ?_
        · refine ve_oe ?_
          · refine oe_bin od_add ?_ ?_
            · refine se_oe ?_
              · refine oe_slice (se_var 0) vo_none (vo_some ve_int)
            · refine se_oe ?_
              · refine oe_lst 1 ?_
                · refine ae_v ve_int ae_nil
    · refine vss_cons ?_ ?_
      · refine vs_setV (i := 2) sc_law.nd rfl (by first | exact Or.inl rfl | exact Or.inr rfl) ?_
        · refine ve_call C_law_text (hr.mono (by decide)) ?_
          · refine ae_s (se_ve (ve_var 1)) ae_nil
      · refine vss_cons ?_ ?_
        · refine vs_if ?_ ?_ vss_nil
          · refine ts_not ?_
            · refine ts_val ?_
              · refine se_ve ?_
                · refine ve_call C_law_truth (hr.mono (by decide)) ?_
                  · refine ae_s ?_ ?_
                    · refine se_ve ?_
                      · refine ve_call C_is_figures (hr.mono (by decide)) ?_
                        · refine ae_s (se_ve (ve_var 2)) ae_nil
                    · refine ae_s ?_ ae_nil
                      · refine se_ve ?_
                        · refine ve_call C_law_due (hr.mono (by decide)) ?_
                          · refine ae_s (se_ve (ve_var 2)) ae_nil
          · refine vss_one (vs_retV ve_bl)
        · refine vss_one ?_
          · refine vs_if ?_ ?_ vss_nil
            · refine ts_not ?_
              · refine ts_val ?_
                · refine se_ve ?_
                  · refine ve_call C_law_row_right (hr.mono (by decide)) ?_
                    · refine ae_s ?_ ?_
                      · refine se_oe ?_
                        · refine oe_call C_law_words (hr.mono (by decide)) ?_
                          · refine ae_s (se_ve (ve_var 1)) ae_nil
                      · refine ae_s (se_ve (ve_var 1)) ae_nil
            · refine vss_one (vs_retV ve_bl)
  · refine vss_cons ?_ ?_
    · refine vs_for rfl ?_ (vg_name (i := 3) sc_law.nd rfl (by first | exact Or.inl rfl | exact Or.inr rfl)) ?_
      · refine vi_any ?_
        · refine we_ve ?_
          · refine ve_oe ?_
            · refine oe_lst 8 ?_
              · refine ae_v ve_non ?_
                · refine ae_v ve_int ?_
                  · refine ae_v ve_int ?_
                    · refine ae_v ve_bl ?_
                      · refine ae_v ?_ ?_
                        · refine ve_oe ?_
                          · refine oe_lst 1 ?_
                            · refine ae_v (ve_str [53]) ae_nil
                        · refine ae_v ?_ ?_
                          · refine ve_tup 1 ?_
                            · refine ae_v (ve_str [53]) ae_nil
                          · refine ae_v ve_dnew ?_
                            · refine ae_v ?_ ae_nil
                              · refine ve_oe (oe_lst 0 ae_nil)
      · refine vss_one ?_
        · refine vs_if ?_ ?_ vss_nil
          · refine ts_w ?_
            · refine tw_or ?_ ?_
              · refine ts_not ?_
                · refine ts_val ?_
                  · refine se_ve ?_
                    · refine ve_call C_law_truth (hr.mono (by decide)) ?_
                      · refine ae_s ?_ ?_
                        · refine se_ve ?_
                          · refine ve_call C_is_figures (hr.mono (by decide)) ?_
                            · refine ae_s (se_ve (ve_var 3)) ae_nil
                        · refine ae_s (se_ve ve_bl) ae_nil
              · refine tw_or1 ?_
                · refine ts_not ?_
                  · refine ts_val ?_
                    · refine se_ve ?_
                      · refine ve_call C_law_refused (hr.mono (by decide)) ?_
                        · refine ae_s (se_ve (ve_var 3)) ae_nil
          · refine vss_one (vs_retV ve_bl)
    · refine vss_cons ?_ ?_
      · refine vs_for rfl ?_ (vg_name (i := 2) sc_law.nd rfl (by first | exact Or.inl rfl | exact Or.inr rfl)) ?_
        · refine vi_any ?_
          · refine we_ve ?_
            · refine ve_oe ?_
              · refine oe_lst 3 ?_
                · refine ae_v (ve_str [48]) ?_
                  · refine ae_v (ve_str [57, 57, 57, 57, 57, 57]) ?_
                    · refine ae_v (ve_str [49]) ae_nil
        · refine vss_one ?_
          · refine vs_if ?_ ?_ vss_nil
            · refine ts_cmp od_isnot ?_ (se_ve ve_bl) (nomark _)
              · refine se_ve ?_
                · refine ve_call C_is_figures (hr.mono (by decide)) ?_
                  · refine ae_s (se_ve (ve_var 2)) ae_nil
            · refine vss_one (vs_retV ve_bl)
      · refine vss_one ?_
        · refine vs_retV ?_
          · refine ve_and ?_ ?_
            · refine ve_call C_law_refused (hr.mono (by decide)) ?_
              · refine ae_s (se_ve (ve_str [])) ae_nil
            · refine ve_and ?_ ?_
              · refine ve_call C_law_refused (hr.mono (by decide)) ?_
                · refine ae_s (se_ve (ve_str [32])) ae_nil
              · refine ve_one ?_
                · refine ve_oe ?_
                  · refine oe_cmp (od_eq hr) ?_ ?_ (nomark _)
                    · refine se_oe ?_
                      · refine oe_call C_words_of (hr.mono (by decide)) ?_
                        · refine ae_s (se_ve (ve_str [97])) ae_nil
                    · refine se_oe ?_
                      · refine oe_lst 1 ?_
                        · refine ae_v (ve_str [97]) ae_nil
def hdC1 (a : Nat) : List (List Nat) → List (List Nat)
  | [] => [[a]]
  | w :: r => (a :: w) :: r
def spl : List Nat → List (List Nat)
  | [] => [[]]
  | a :: l => if a = 32 then [] :: spl l else hdC1 a (spl l)
theorem spl_32 (l : List Nat) : spl (32 :: l) = [] :: spl l := by
  show (if (32 : Nat) = 32 then _ else _) = _
  rw [if_pos rfl]
theorem spl_c {a : Nat} (h : a ≠ 32) (l : List Nat) : spl (a :: l) = hdC1 a (spl l) := by
  show (if a = 32 then _ else _) = _
  rw [if_neg h]
theorem spl_ne : ∀ l : List Nat, spl l ≠ []
  | [] => by unfold spl; exact fun h => nomatch h
  | a :: l => by
    by_cases h : a = 32
    · rw [h, spl_32]; exact fun h => nomatch h
    · rw [spl_c h]
      cases spl l with
      | nil => exact fun h => nomatch h
      | cons w r => exact fun h => nomatch h
theorem hdC1_app {a : Nat} {x y : List (List Nat)} (h : x ≠ []) : hdC1 a (x ++ y) = hdC1 a x ++ y := by
  cases x with
  | nil => exact absurd rfl h
  | cons w r => rfl
theorem spl_app : ∀ x y : List Nat, spl (x ++ 32 :: y) = spl x ++ spl y
  | [], y => by rw [List.nil_append, spl_32]; rfl
  | a :: x, y => by
    by_cases h : a = 32
    · rw [h, List.cons_append, spl_32, spl_app x y, spl_32]; rfl
    · rw [List.cons_append, spl_c h, spl_app x y, spl_c h, hdC1_app (spl_ne x)]
theorem spl_free : ∀ w : List Nat, (∀ a ∈ w, a ≠ 32) → spl w = [w]
  | [], _ => rfl
  | a :: w, h => by
    rw [spl_c (h a (List.mem_cons_self ..)), spl_free w fun b hb => h b (List.mem_cons_of_mem _ hb)]
    rfl
theorem spl_glue : ∀ ws : List (List Nat), ws ≠ [] → (∀ w ∈ ws, ∀ a ∈ w, a ≠ 32) → spl (glueB [32] ws) = ws
  | [], h, _ => absurd rfl h
  | [w], _, h => spl_free w (h w (List.mem_singleton.mpr rfl))
  | w :: v :: r, _, h => by
    show spl (w ++ [32] ++ glueB [32] (v :: r)) = _
    rw [List.append_assoc, List.singleton_append, spl_app, spl_free w (h w (List.mem_cons_self ..)), spl_glue (v :: r) (fun z => nomatch z) fun u hu => h u (List.mem_cons_of_mem _ hu)]
    rfl
theorem glue_join : ∀ ps : List Str, S (glueB [32] (ps.map fun x => x.cps.toList)) = Str.join (S [32]) ps := by
  intro ps
  have e := glueB_S [32] (ps.map fun x => x.cps.toList)
  have e2 : (ps.map fun x => x.cps.toList).map S = ps := by
    rw [List.map_map]
    conv => rhs; rw [← List.map_id ps]
    exact List.map_congr_left fun x _ => S_of x
  rw [e2] at e
  rw [← e]
  exact StrLaws.glued_eq_join _ _
theorem split_some (x y : Str) : Txt.split x y ≠ [] := by
  unfold Txt.split
  split
  · exact fun h => nomatch h
  · split
    · exact fun h => nomatch h
    · rw [StrLaws.partsBetween_eq]
      generalize Builtin.Str.occurrences x y 0 x.length (x.length + 1) = cs
      cases cs with
      | nil => exact fun h => nomatch h
      | cons => exact fun h => nomatch h
theorem cut_spl (l : List Nat) : cutS l [32] = spl l := by
  have hj := StrLaws.join_split (S l) (S [32])
  rw [← glue_join] at hj
  have hl : glueB [32] (cutS l [32]) = l := by
    have := congrArg (fun x : Str => x.cps.toList) hj
    show glueB [32] (List.map (fun x => x.cps.toList) (Txt.split (S l) (S [32]))) = l
    simpa [S_cps] using this
  have hf : ∀ w ∈ cutS l [32], ∀ a ∈ w, a ≠ 32 := by
    intro w hw a ha z
    unfold cutS at hw
    obtain ⟨p, hp, rfl⟩ := List.mem_map.mp hw
    exact StrLaws.split_free (S l) 32 p hp (z ▸ ha)
  have hn : cutS l [32] ≠ [] := by
    unfold cutS
    intro z
    exact split_some _ _ (List.map_eq_nil_iff.mp z)
  have := spl_glue (cutS l [32]) hn hf
  rw [hl] at this
  exact this.symm
theorem spl_gap {x y : List Nat} (h : x = [] ∨ y = [] ∨ ∃ y', y = 32 :: y') : [] ∈ spl (x ++ 32 :: y) := by
  rw [spl_app]
  rcases h with rfl | rfl | ⟨y', rfl⟩
  · exact List.mem_append_left _ (List.mem_singleton.mpr rfl)
  · exact List.mem_append_right _ (List.mem_singleton.mpr rfl)
  · rw [spl_32]
    exact List.mem_append_right _ (List.mem_cons_self ..)
theorem find_at (l : List Nat) : Txt.find (S l) (S [32]) = -1 ∨ ∃ i : Nat, Txt.find (S l) (S [32]) = (i : Int) ∧ l[i]? = some 32 := by
  unfold Txt.find
  split
  · rename_i i r e
    right
    refine ⟨i, rfl, ?_⟩
    obtain ⟨h1, h2⟩ := StrLaws.occ_spec (S l) (S [32]) 0 (S l).length 1 i (by rw [e]; exact List.mem_cons_self ..)
    rw [StrLaws.subAt_eq, S_cps, S_cps, S_length, beq_iff_eq] at h2
    rw [S_length, S_length] at h1
    have h3 : i + 1 ≤ l.length := h1
    have h4 : (l.drop i).take 1 = [32] := h2
    rw [List.drop_eq_getElem_cons (by omega), List.take_succ_cons, List.take_zero] at h4
    rw [List.getElem?_eq_getElem (by omega)]
    exact congrArg some (List.cons.inj h4).1
  · exact .inl rfl
theorem bin_ok {g : D → D → Option D} {a b : L2.M D} {ρ : DEnv} {O : Store} {x y z : D} (ha : a ρ O = .ok x O) (hb : b ρ O = .ok y O) (h : g (deref O x) (deref O y) = some z) : mBin g a b ρ O = .ok z O := by
  rw [m_bin, ha, bind_ok', hb, bind_ok', h, ofO_some]
theorem ma1 {a : L2.M D} {ρ : DEnv} {O : Store} {x : D} (h : a ρ O = .ok x O) : maCons a maNil ρ O = .ok [x] O := by
  rw [ma_cons, h, bind_ok', ma_nil, bind_ok']
theorem maS {a : L2.M D} {r : L2.M (List D)} {ρ : DEnv} {O : Store} {x : D} {xs : List D} (h : a ρ O = .ok x O) (h2 : r ρ O = .ok xs O) : maCons a r ρ O = .ok (x :: xs) O := by
  rw [ma_cons, h, bind_ok', h2, bind_ok']
theorem lstA {m : L2.M (List D)} {ρ : DEnv} {O : Store} {xs : List D} (h : m ρ O = .ok xs O) (hl : xs.length ≤ 1000000) : mLst m ρ O = .ok (.lst xs) O := by
  rw [m_lst, h, bind_ok', if_pos hl]
theorem callB_ok {g : List D → Option D} {m : L2.M (List D)} {ρ : DEnv} {O : Store} {xs : List D} {z : D} (h : m ρ O = .ok xs O) (hg : g (xs.map (deref O)) = some z) : mCallB g m ρ O = .ok z O := by
  rw [m_callB, h, bind_ok', hg, ofO_some]
theorem app_ok {i : Nat} {m : L2.M D} {ρ : DEnv} {O : Store} {d : D} {ds : List D} (hm : m ρ O = .ok d O) (h : ρ[i]? = some (some (.lst ds))) (hl : ds.length < 1000000) : msApp i m ρ O = .nx (ρ.set i (some (.lst (ds ++ [d])))) O := by
  rw [ms_app, hm, apF_ok h hl]
theorem set_ok {i : Nat} {m : L2.M D} {ρ : DEnv} {O : Store} {d : D} (h : m ρ O = .ok d O) : msSet i m ρ O = .nx (ρ.set i (some d)) O := by
  rw [ms_set, h, setF_ok]
theorem call_ok {c : List D → Store → Res D} {ma : L2.M (List D)} {ρ : DEnv} {O : Store} {ds : List D} (h : ma ρ O = .ok ds O) : mCall c ma ρ O = c ds O := by
  rw [m_call, h, bind_ok']
theorem test_ok {m : L2.M D} {ρ : DEnv} {O : Store} {b : Bool} (h : m ρ O = .ok (.bl b) O) : mTest m ρ O = .ok b O := by
  rw [m_test, h, bind_ok', teF_bl]
theorem if_yes {t : L2.M Bool} {a b : MS} {ρ : DEnv} {O : Store} (h : t ρ O = .ok true O) : msIf t a b ρ O = a ρ O := by
  rw [ms_if, h, ifF_ok, if_pos rfl]
theorem if_no {t : L2.M Bool} {a b : MS} {ρ : DEnv} {O : Store} (h : t ρ O = .ok false O) : msIf t a b ρ O = b ρ O := by
  rw [ms_if, h, ifF_ok, if_neg Bool.false_ne_true]
theorem rng_ok {m : L2.M D} {ρ : DEnv} {O : Store} {n : Nat} (h : m ρ O = .ok (.int (n : Int)) O) (hn : n ≤ 1000000) : mRng1 (maCons m maNil) ρ O = .ok (rangeD 0 n) O := by
  rw [m_rng1, ma1 h, bind_ok']
  show (if (n : Int) ≤ 1000000000 ∧ -1000000000 ≤ (n : Int) then Res.ok (rangeD 0 (n : Int).toNat) O else .no) = _
  rw [if_pos ⟨by omega, by omega⟩, Int.toNat_natCast]
theorem mod_ok {a b : L2.M D} {ρ : DEnv} {O : Store} {i j : Int} (ha : a ρ O = .ok (.int i) O) (hb : b ρ O = .ok (.int j) O) (hj : 0 < j) : mBin gMod a b ρ O = .ok (.int (i % j)) O := bin_ok ha hb (by rw [deref_int, deref_int, gMod_i, if_pos hj])
theorem add_i {a b : L2.M D} {ρ : DEnv} {O : Store} {i j : Int} (ha : a ρ O = .ok (.int i) O) (hb : b ρ O = .ok (.int j) O) : mBin gAdd a b ρ O = .ok (.int (i + j)) O := bin_ok ha hb rfl
theorem eq_ok {a b : L2.M D} {ρ : DEnv} {O : Store} {i j : Int} (ha : a ρ O = .ok (.int i) O) (hb : b ρ O = .ok (.int j) O) : mTest (mBin gEq a b) ρ O = .ok (decide (i = j)) O := test_ok (bin_ok ha hb rfl)
def asc (l : List Nat) : Prop := ∀ c ∈ l, c < 128
theorem okE_s {l : List Nat} (h : asc l) : okE (.str l) = true := by
  unfold okE
  show (true && okD (.str (S l))) = true
  unfold okD
  rw [lay_str fun c hc => Nat.lt_trans (h c hc) (by decide)]
  rfl
theorem eqDD_s (a b : List Nat) : eqDD (.str a) (.str b) = decide (a = b) := by
  show (S a == S b) = decide (a = b)
  by_cases h : a = b
  · subst h
    rw [decide_eq_true rfl]
    exact beq_self_eq_true _
  · rw [decide_eq_false h]
    refine beq_eq_false_iff_ne.mpr fun z => h ?_
    have := congrArg (fun x : Str => x.cps.toList) z
    simpa [S_cps] using this
theorem hdC1_asc {a : Nat} {x : List (List Nat)} (ha : a < 128) (h : ∀ w ∈ x, asc w) : ∀ w ∈ hdC1 a x, asc w := by
  cases x with
  | nil => exact fun w hw => by rw [List.mem_singleton.mp hw]; exact fun c hc => by rw [List.mem_singleton.mp hc]; exact ha
  | cons v r =>
    intro w hw
    rcases List.mem_cons.mp hw with rfl | hw
    · intro c hc
      rcases List.mem_cons.mp hc with rfl | hc
      · exact ha
      · exact h v (List.mem_cons_self ..) c hc
    · exact h w (List.mem_cons_of_mem _ hw)
theorem spl_asc : ∀ {l : List Nat}, asc l → ∀ w ∈ spl l, asc w
  | [], _ => fun w hw => by rw [List.mem_singleton.mp (show w ∈ [[]] from hw)]; exact fun c hc => nomatch hc
  | a :: l, h => by
    have hl : asc l := fun c hc => h c (List.mem_cons_of_mem _ hc)
    by_cases ha : a = 32
    · rw [ha, spl_32]
      intro w hw
      rcases List.mem_cons.mp hw with rfl | hw
      · exact fun c hc => nomatch hc
      · exact spl_asc hl w hw
    · rw [spl_c ha]
      exact hdC1_asc (h a (List.mem_cons_self ..)) (spl_asc hl)
theorem in_words {ws : List (List Nat)} (h : ∀ w ∈ ws, asc w) : gInT false (.str []) (.lst (ws.map D.str)) = some (.bl (decide ([] ∈ ws))) := by
  have h1 : (ws.map D.str).all okE = true := List.all_eq_true.mpr fun d hd => by
    obtain ⟨w, hw, rfl⟩ := List.mem_map.mp hd
    exact okE_s (h w hw)
  show (if (okE (.str []) && (ws.map D.str).all okE) = true then some (D.bl (false ^^ (ws.map D.str).any fun y => eqDD y (.str []))) else none) = _
  rw [h1, okE_s (l := []) (by intro c hc; cases hc), Bool.and_self, if_pos rfl, Bool.false_xor, List.any_map]
  congr 2
  rw [Bool.eq_iff_iff, List.any_eq_true, decide_eq_true_eq]
  constructor
  · rintro ⟨w, hw, e⟩
    rw [Function.comp_apply, eqDD_s, decide_eq_true_eq] at e
    exact e ▸ hw
  · intro hm
    exact ⟨[], hm, by rw [Function.comp_apply, eqDD_s, decide_eq_true_eq]⟩
def nfF (f : Fl) : Fl := match f with
  | .ex _ _ => .no
  | f => f
theorem ms_n {m : MS} {ρ : DEnv} {O : Store} : msN m ρ O = nfF (m ρ O) := rfl
theorem nfF_nx {ρ : DEnv} {O : Store} : nfF (.nx ρ O) = .nx ρ O := rfl
theorem ifx_yes {t : L2.M Bool} {a b : MS} {ρ : DEnv} {O : Store} (h : t ρ O = .ok true O) : msIfX t a b ρ O = a ρ O := by
  unfold msIfX
  rw [h]
  dsimp only
  rw [if_pos rfl]
theorem ifx_no {t : L2.M Bool} {a b : MS} {ρ : DEnv} {O : Store} (h : t ρ O = .ok false O) : msIfX t a b ρ O = b ρ O := by
  unfold msIfX
  rw [h]
  dsimp only
  rw [if_neg Bool.false_ne_true]
theorem nt_y {m : L2.M D} {ρ : DEnv} {O : Store} {b : Bool} (h : m ρ O = .ok (.bl b) O) : mtNot (mTru m) ρ O = .ok (!b) O := by
  rw [mt_not, m_tru, h, bind_ok', deref_bl, truD_bl, ofB_some, bind_ok']
theorem wo_pre (l : List Nat) (hl : l.length ≤ 1000000) (ha : asc l) (O : Store) :
    b_words_of [some (.str l), none] O = msSeq (msIfX (mTest (mBin (gInT false) (mC (.str [])) (mVar 1))) (msSeq (msRaise "NoRow") msNil) msNil) (msSeq (msN (msRet (mVar 1))) msNil) [some (.str l), some (.lst ((spl l).map D.str))] O := by
  have h1 : mtNot (mTru (mIsi "str" (mVar 0))) [some (.str l), none] O = .ok false O := nt_y (b := true) rfl
  have h2 : mSplit (mG (mVar 0)) (mC (.str [32])) [some (.str l), none] O = .ok (.lst ((spl l).map D.str)) O := by
    show (if 1 ≤ [32].length ∧ l.length ≤ 1000000 then Res.ok (D.lst ((cutS l [32]).map D.str)) O else .no) = _
    rw [if_pos ⟨by decide, hl⟩, cut_spl]
  unfold b_words_of
  rw [ms_seq, ifx_no h1, ms_nil, seqF_nx, ms_seq, ms_n, ms_set, h2, setF_ok, nfF_nx, seqF_nx]
  rfl
theorem wo_test (l : List Nat) (ha : asc l) (O : Store) : mTest (mBin (gInT false) (mC (.str [])) (mVar 1)) [some (.str l), some (.lst ((spl l).map D.str))] O = .ok (decide ([] ∈ spl l)) O :=
  test_ok (bin_ok (x := .str []) (y := .lst ((spl l).map D.str)) rfl rfl (in_words (spl_asc ha)))
theorem wo_ok (l : List Nat) (hl : l.length ≤ 1000000) (ha : asc l) (h : [] ∉ spl l) (O : Store) : c_words_of [.str l] O = .ok (.lst ((spl l).map D.str)) O := by
  show funF (b_words_of [some (.str l), none] O) = _
  rw [wo_pre l hl ha, ms_seq, ifx_no (by rw [wo_test l ha, decide_eq_false h]), ms_nil, seqF_nx]
  rfl
theorem wo_ex (l : List Nat) (hl : l.length ≤ 1000000) (ha : asc l) (h : [] ∈ spl l) (O : Store) : c_words_of [.str l] O = .ex ⟨"NoRow", []⟩ O := by
  show funF (b_words_of [some (.str l), none] O) = _
  rw [wo_pre l hl ha, ms_seq, ifx_yes (by rw [wo_test l ha, decide_eq_true h])]
  rfl
theorem wo_non {d : D} {t : String} (ht : tyD d = some t) (hd : ∀ O, deref O d = d) (hs : isTy t "str" = false) (O : Store) : c_words_of [d] O = .ex ⟨"NoRow", []⟩ O := by
  show funF (b_words_of [some d, none] O) = _
  have h1 : mtNot (mTru (mIsi "str" (mVar 0))) [some d, none] O = .ok true O := nt_y (b := false) (by
    rw [m_isi]
    show (isF "str" (tyD (deref O d)) O) = _
    rw [hd, ht, isF_some, hs])
  unfold b_words_of
  rw [ms_seq, ifx_yes h1]
  rfl
theorem refused_ex {d : D} {O : Store} (h : c_words_of [d] O = .ex ⟨"NoRow", []⟩ O) : c_law_refused [d] O = .ok (.bl true) O := by
  show funF (b_law_refused [some d, none] O) = _
  have h1 : msTry c_words_of (maCons (mVar 0) maNil) (hdC "NoRow") [some d, none] O = .rt (.bl true) O := by
    unfold msTry
    rw [show maCons (mVar 0) maNil [some d, none] O = .ok [d] O from rfl]
    dsimp only
    rw [h]
    rfl
  unfold b_law_refused
  rw [ms_seq, h1]
  rfl
theorem asc_ascii {l : List Nat} (h : asc l) : ascii l = true := by
  unfold ascii
  exact List.all_eq_true.mpr fun c hc => decide_eq_true (h c hc)
def dg (c : Nat) : Bool := decide (48 ≤ c) && decide (c ≤ 57)
def fig (t : List Nat) : Bool := match t with
  | [] => false
  | c :: r => decide (r.length < 6) && (c :: r).all dg && (decide (c :: r = [48]) || !decide (c = 48))
theorem bools_map {α : Type} (p : α → Bool) : ∀ l : List α, boolsD (l.map fun x => D.bl (p x)) = some (l.map p)
  | [] => rfl
  | a :: l => by
    show (boolsD (l.map fun x => D.bl (p x))).map _ = _
    rw [bools_map p l]
    rfl
theorem comp_ok {m : L2.M (List D)} {own : Nat} {cap : List Nat} {g : MG} {t : L2.M Bool} {e : L2.M D} {ρ ρ0 : DEnv} {O O1 : Store} {ds ys : List D} (h : m ρ O = .ok ds O) (hl : ds.length ≤ 1000000) (h0 : cEnv own cap ρ = ρ0) (hc : cloop g t e ds ρ0 O [] = .ok ys O1) : mComp m own cap g t e ρ O = .ok (.lst ys) O1 := by
  rw [m_comp, h, bind_ok', if_pos hl, h0, hc, bind_ok']
theorem itS {m : L2.M D} {ρ : DEnv} {O : Store} {l : List Nat} (ha : asc l) (h : m ρ O = .ok (.str l) O) : mIter m ρ O = .ok (signsD l) O := by
  rw [m_iter, h, bind_ok', iterD_str (asc_ascii ha), itF_some]
theorem ch_dg (c : Nat) (O : Store) : mChain gLe gLe (mC (.str [48])) (mVar 0) (mC (.str [57])) [some (.str [c])] O = .ok (.bl (dg c)) O := by
  rw [m_chain, m_c, bind_ok', show mVar 0 [some (.str [c])] O = .ok (.str [c]) O from rfl, bind_ok', deref_str, deref_str, gLe_1, chF_b, m_c, bind_ok', deref_str, deref_str, gLe_1, ofO_some]
  unfold dg
  cases decide (48 ≤ c) <;> rfl
theorem all_dg (t : List Nat) (ht : asc t) (hl : t.length ≤ 1000000) (O : Store) : mCallB gAll (maCons (mComp (mIter (mVar 0)) 1 [] (mgN 0) mYes (mChain gLe gLe (mC (.str [48])) (mVar 0) (mC (.str [57])))) maNil) [some (.str t)] O = .ok (.bl (t.all dg)) O := by
  have hc := cloop_mapT (g := mgN 0) (t := mYes) (m := mChain gLe gLe (mC (.str [48])) (mVar 0) (mC (.str [57]))) (fun ρ => ∃ a, ρ = [a]) (fun c : Nat => D.str [c]) (fun c => D.bl (dg c)) t [none] O [] ⟨_, rfl⟩ (by
    rintro c hc ρ ⟨a, rfl⟩
    exact ⟨[some (.str [c])], rfl, ⟨_, rfl⟩, rfl, ch_dg c O⟩)
  rw [List.nil_append] at hc
  refine callB_ok (ma1 (comp_ok (ρ0 := [none]) (itS ht rfl) (by unfold signsD; rw [List.length_map]; exact hl) rfl hc)) ?_
  show (boolsD (t.map fun c => D.bl (dg c))).map (fun bs => D.bl (bs.all id)) = _
  rw [bools_map, Option.map_some, List.all_map]
  rfl
theorem ix0 {c : Nat} {r : List Nat} {m : L2.M D} {ρ : DEnv} {O : Store} (hl : (c :: r).length ≤ 1000000) (h : m ρ O = .ok (.str (c :: r)) O) : mBin gIx m (mC (.int 0)) ρ O = .ok (.str [c]) O := bin_ok h rfl (by
  rw [deref_str, deref_int, gIx_s, if_pos hl, show (0 : Int) = ((0 : Nat) : Int) from rfl, atI_ofNat]
  rfl)
theorem or_ok {a b : L2.M D} {ρ : DEnv} {O : Store} {x y : Bool} (h1 : a ρ O = .ok (.bl x) O) (h2 : b ρ O = .ok (.bl y) O) : mOrV a b ρ O = .ok (.bl (x || y)) O := by
  rw [m_orV, h1, bind_ok', orF_b, h2]
  cases x <;> rfl
theorem e_fig (t : List Nat) (ht : asc t) (hl : t.length ≤ 1000) (O : Store) : c_is_figures [.str t] O = .ok (.bl (fig t)) O := by
  show funF (b_is_figures [some (.str t)] O) = _
  have hln : mCallB gLen (maCons (mVar 0) maNil) [some (.str t)] O = .ok (.int (t.length : Int)) O := callB_ok (ma1 (x := .str t) rfl) (by
    show gLen [.str t] = _
    rw [gLen_s, if_pos (by omega)])
  have t1 : mtOr (mtNot (mTru (mIsi "str" (mVar 0)))) (mtNot (mTest (mChain gLe gLe (mC (.int 1)) (mCallB gLen (maCons (mVar 0) maNil)) (mC (.int 6))))) [some (.str t)] O = .ok (!(decide ((1 : Int) ≤ t.length) && decide ((t.length : Int) ≤ 6))) O := by
    rw [mt_or, nt_y (b := true) rfl, bind_ok', Bool.not_true, if_neg Bool.false_ne_true, mt_not, m_test, m_chain, m_c, bind_ok', hln, bind_ok', deref_int, deref_int, gLe_i, chF_b, m_c, bind_ok', deref_int, deref_int, gLe_i, ofO_some]
    cases decide ((1 : Int) ≤ t.length) <;> rfl
  unfold b_is_figures
  cases t with
  | nil =>
    rw [ms_seq, if_yes (t1.trans rfl)]
    rfl
  | cons c r =>
    have e1 : decide ((1 : Int) ≤ ((c :: r).length : Int)) = true := decide_eq_true (by rw [List.length_cons]; omega)
    have e2 : decide (((c :: r).length : Int) ≤ 6) = decide (r.length < 6) := by
      rw [List.length_cons]
      by_cases h : r.length < 6
      · rw [decide_eq_true h, decide_eq_true (by omega)]
      · rw [decide_eq_false h, decide_eq_false (by omega)]
    rw [e1, e2, Bool.true_and] at t1
    show _ = Res.ok (D.bl (decide (r.length < 6) && (c :: r).all dg && (decide (c :: r = [48]) || !decide (c = 48)))) O
    by_cases h6 : r.length < 6
    · rw [decide_eq_true h6] at t1
      rw [decide_eq_true h6, Bool.true_and, ms_seq, if_no t1, ms_nil, seqF_nx, ms_seq]
      have t2 := nt_y (all_dg (c :: r) ht (by omega) O)
      cases ha : (c :: r).all dg with
      | false =>
        rw [ha] at t2
        rw [if_yes t2]
        rfl
      | true =>
        rw [ha] at t2
        have e3 : mBin gEq (mVar 0) (mC (.str [48])) [some (.str (c :: r))] O = .ok (.bl (decide (c :: r = [48]))) O := bin_ok (x := .str (c :: r)) rfl rfl rfl
        have e4 : mBin gNe (mBin gIx (mVar 0) (mC (.int 0))) (mC (.str [48])) [some (.str (c :: r))] O = .ok (.bl (!decide (c = 48))) O := bin_ok (ix0 (r := r) (by omega) rfl) rfl (by
          rw [deref_str, deref_str, gNe_s]
          congr 2
          by_cases hc : c = 48
          · subst hc; rfl
          · rw [decide_eq_false hc, decide_eq_false fun z => hc (List.cons.inj z).1])
        rw [if_no t2, ms_nil, seqF_nx, ms_ret, or_ok e3 e4, retF_ok, funF_rt, Bool.true_and]
    · rw [decide_eq_false h6] at t1
      rw [decide_eq_false h6, Bool.false_and, Bool.false_and, ms_seq, if_yes t1]
      rfl
theorem fig_non {d : D} {t : String} (ht : tyD d = some t) (hd : ∀ O, deref O d = d) (hs : isTy t "str" = false) (O : Store) : c_is_figures [d] O = .ok (.bl false) O := by
  show funF (b_is_figures [some d] O) = _
  have h1 : mtNot (mTru (mIsi "str" (mVar 0))) [some d] O = .ok true O := nt_y (b := false) (by
    rw [m_isi]
    show (isF "str" (tyD (deref O d)) O) = _
    rw [hd, ht, isF_some, hs])
  unfold b_is_figures
  rw [ms_seq, if_yes (by rw [mt_or, h1, bind_ok', if_pos rfl])]
  rfl
theorem e_truth (a b : Bool) (O : Store) : c_law_truth [.bl a, .bl b] O = .ok (.bl (decide (a = b))) O := by
  show funF (b_law_truth [some (.bl a), some (.bl b)] O) = _
  unfold b_law_truth
  rfl
theorem dg_mem (c : Nat) : decide (c ∈ [48, 49, 50, 51, 52, 53, 54, 55, 56, 57]) = dg c := by
  unfold dg
  rw [Bool.eq_iff_iff, decide_eq_true_eq, Bool.and_eq_true, decide_eq_true_eq, decide_eq_true_eq]
  simp only [List.mem_cons, List.not_mem_nil, or_false]
  omega
def B_due : MS := msIf (mTest (mBin (gIn true) (mVar 1) (mC (.str [48, 49, 50, 51, 52, 53, 54, 55, 56, 57])))) (msRet (mC (.bl false))) msNil
theorem due_loop (X : Option D) (O : Store) : ∀ (t : List Nat) (a : Option D), (t.all dg = true ∧ ∃ b, floop (mgN 1) B_due (signsD t) [X, a] O = .nx [X, b] O) ∨ (t.all dg = false ∧ floop (mgN 1) B_due (signsD t) [X, a] O = .rt (.bl false) O)
  | [], a => .inl ⟨rfl, a, rfl⟩
  | c :: t, a => by
    have ht : mTest (mBin (gIn true) (mVar 1) (mC (.str [48, 49, 50, 51, 52, 53, 54, 55, 56, 57]))) [X, some (.str [c])] O = .ok (!dg c) O := by
      rw [test_ok (bin_ok (x := .str [c]) rfl rfl gIn_s), dg_mem, Bool.true_xor]
    cases hc : dg c with
    | false =>
      right
      rw [hc] at ht
      refine ⟨by rw [List.all_cons, hc]; rfl, ?_⟩
      have e2 : B_due [X, some (.str [c])] O = .rt (.bl false) O := by
        unfold B_due
        rw [if_yes ht]
        rfl
      show floop (mgN 1) B_due (D.str [c] :: signsD t) [X, a] O = _
      rw [floop, show mgN 1 (D.str [c]) [X, a] = some [X, some (.str [c])] from rfl]
      dsimp only
      rw [e2]
    | true =>
      rw [hc] at ht
      have e2 : B_due [X, some (.str [c])] O = .nx [X, some (.str [c])] O := by
        unfold B_due
        rw [if_no ht]
        rfl
      have e : floop (mgN 1) B_due (signsD (c :: t)) [X, a] O = floop (mgN 1) B_due (signsD t) [X, some (.str [c])] O := by
        show floop (mgN 1) B_due (D.str [c] :: signsD t) [X, a] O = _
        rw [floop, show mgN 1 (D.str [c]) [X, a] = some [X, some (.str [c])] from rfl]
        dsimp only
        rw [e2]
      rw [e, List.all_cons, hc, Bool.true_and]
      exact due_loop X O t _
theorem e_due (t : List Nat) (ht : asc t) (hl : t.length ≤ 1000) (O : Store) : c_law_due [.str t] O = .ok (.bl (fig t)) O := by
  show funF (b_law_due [some (.str t), none] O) = _
  have hln : mCallB gLen (maCons (mVar 0) maNil) [some (.str t), none] O = .ok (.int (t.length : Int)) O := callB_ok (ma1 (x := .str t) rfl) (by
    show gLen [.str t] = _
    rw [gLen_s, if_pos (by omega)])
  have t1 : mtOr (mTest (mBin gEq (mVar 0) (mC (.str [])))) (mTest (mBin gGt (mCallB gLen (maCons (mVar 0) maNil)) (mC (.int 6)))) [some (.str t), none] O = .ok (decide (t = []) || decide ((6 : Int) < t.length)) O := by
    rw [mt_or, test_ok (bin_ok (x := .str t) (y := .str []) (z := .bl (decide (t = []))) rfl rfl rfl), bind_ok', test_ok (bin_ok hln (y := .int 6) (z := .bl (decide ((6 : Int) < t.length))) rfl rfl)]
    cases decide (t = []) <;> rfl
  unfold b_law_due
  cases t with
  | nil =>
    rw [ms_seq, if_yes (t1.trans rfl)]
    rfl
  | cons c r =>
    have e1 : decide (c :: r = []) = false := decide_eq_false fun z => nomatch z
    have e2 : decide ((6 : Int) < ((c :: r).length : Int)) = !decide (r.length < 6) := by
      rw [List.length_cons]
      by_cases h : r.length < 6
      · rw [decide_eq_true h, decide_eq_false (by omega)]; rfl
      · rw [decide_eq_false h, decide_eq_true (by omega)]; rfl
    rw [e1, e2, Bool.false_or] at t1
    show _ = Res.ok (D.bl (decide (r.length < 6) && (c :: r).all dg && (decide (c :: r = [48]) || !decide (c = 48)))) O
    by_cases h6 : r.length < 6
    · rw [decide_eq_true h6] at t1
      rw [decide_eq_true h6, Bool.true_and, ms_seq, if_no t1, ms_nil, seqF_nx, ms_seq]
      have e0 : msFor (mIter (mVar 0)) (mgN 1) (msIf (mTest (mBin (gIn true) (mVar 1) (mC (.str [48, 49, 50, 51, 52, 53, 54, 55, 56, 57])))) (msRet (mC (.bl false))) msNil) [some (.str (c :: r)), none] O = floop (mgN 1) B_due (signsD (c :: r)) [some (.str (c :: r)), none] O := by
        rw [ms_for, itS ht (l := c :: r) rfl, forF_ok]
        rfl
      rw [e0]
      rcases due_loop (some (.str (c :: r))) O (c :: r) none with ⟨h1, b, h2⟩ | ⟨h1, h2⟩
      · have e3 : mBin gEq (mVar 0) (mC (.str [48])) [some (.str (c :: r)), b] O = .ok (.bl (decide (c :: r = [48]))) O := bin_ok (x := .str (c :: r)) rfl rfl rfl
        have e4 : mBin gNe (mBin gIx (mVar 0) (mC (.int 0))) (mC (.str [48])) [some (.str (c :: r)), b] O = .ok (.bl (!decide (c = 48))) O := bin_ok (ix0 (r := r) (by omega) rfl) rfl (by
          rw [deref_str, deref_str, gNe_s]
          congr 2
          by_cases hc : c = 48
          · subst hc; rfl
          · rw [decide_eq_false hc, decide_eq_false fun z => hc (List.cons.inj z).1])
        rw [h2, h1, seqF_nx, ms_ret, or_ok e4 e3, retF_ok, funF_rt, Bool.true_and, Bool.or_comm]
      · rw [h2, h1]
        rfl
    · rw [decide_eq_false h6] at t1
      rw [decide_eq_false h6, Bool.false_and, Bool.false_and, ms_seq, if_yes t1]
      rfl
theorem cut_0n {α : Type} (l : List α) (b : Nat) : cutN l none (some (b : Int)) = l.take b := by
  unfold cutN
  rw [HT.sIx_nat, HT.sIx_none, List.drop_zero, Nat.sub_zero]
  by_cases hb : b ≤ l.length
  · rw [Nat.min_eq_left hb]
  · rw [Nat.min_eq_right (by omega), List.take_of_length_le (by omega), List.take_of_length_le (by omega)]
theorem cut_n0 {α : Type} (l : List α) (a : Nat) : cutN l (some (a : Int)) none = l.drop a := by
  unfold cutN
  rw [HT.sIx_nat, HT.sIx_none]
  by_cases h : a ≤ l.length
  · rw [Nat.min_eq_left h, List.take_of_length_le (by rw [List.length_drop]; omega)]
  · rw [Nat.min_eq_right (by omega), List.drop_eq_nil_of_le (by omega), List.drop_eq_nil_of_le (by omega)]
    simp
@[simp] theorem c2_1 {a : Nat} : cutN [a] none (some 2) = [a] := rfl
theorem mx_ok {a b : L2.M D} {ρ : DEnv} {O : Store} {c k : Int} (ha : a ρ O = .ok (.int c) O) (hb : b ρ O = .ok (.int k) O) (h0 : 0 ≤ k) (h1 : k ≤ 1000000) : mCall c_law_mix (maCons a (maCons b maNil)) ρ O = .ok (.int (mix c k)) O := by
  rw [call_ok (maS ha (ma1 hb))]
  exact mix_eq c k h0 h1 O
theorem mxm {a b m : L2.M D} {ρ : DEnv} {O : Store} {c k : Int} {n : Nat} (ha : a ρ O = .ok (.int c) O) (hb : b ρ O = .ok (.int k) O) (hm : m ρ O = .ok (.int (n : Int)) O) (hn : 0 < n) (h0 : 0 ≤ k) (h1 : k ≤ 1000000) :
    ∃ i : Nat, i < n ∧ mBin gMod (mCall c_law_mix (maCons a (maCons b maNil))) m ρ O = .ok (.int (i : Int)) O := by
  have e0 := Int.emod_nonneg (mix c k) (show (n : Int) ≠ 0 by omega)
  have e1 := Int.emod_lt_of_pos (mix c k) (show (0 : Int) < n by omega)
  obtain ⟨i, hi⟩ := Int.eq_ofNat_of_zero_le e0
  refine ⟨i, by omega, ?_⟩
  rw [mod_ok (mx_ok ha hb h0 h1) hm (by omega), hi]
theorem addS {a b : L2.M D} {ρ : DEnv} {O : Store} {x y : List Nat} (ha : a ρ O = .ok (.str x) O) (hb : b ρ O = .ok (.str y) O) (h : x.length + y.length ≤ 1000000) : mBin gAdd a b ρ O = .ok (.str (x ++ y)) O :=
  bin_ok ha hb (by rw [deref_str, deref_str, gAdd_s, if_pos h])
theorem slA {m i : L2.M D} {ρ : DEnv} {O : Store} {l : List Nat} {a : Nat} (hm : m ρ O = .ok (.str l) O) (hi : i ρ O = .ok (.int (a : Int)) O) (hl : l.length ≤ 1000000) : mSl m moN (moS i) ρ O = .ok (.str (l.take a)) O := by
  rw [m_sl, hm, bind_ok', mo_n, bind_ok', mo_s, hi, bind_ok', osF_i, bind_ok', deref_str, gSl_str, if_pos (by omega), cut_0n, ofO_some]
theorem slB {m i : L2.M D} {ρ : DEnv} {O : Store} {l : List Nat} {a : Nat} (hm : m ρ O = .ok (.str l) O) (hi : i ρ O = .ok (.int (a : Int)) O) (hl : l.length ≤ 1000000) : mSl m (moS i) moN ρ O = .ok (.str (l.drop a)) O := by
  rw [m_sl, hm, bind_ok', mo_s, hi, bind_ok', osF_i, bind_ok', mo_n, bind_ok', deref_str, gSl_str, if_pos (by omega), cut_n0, ofO_some]
theorem ixS {m i : L2.M D} {ρ : DEnv} {O : Store} {l : List Nat} {a x : Nat} (hm : m ρ O = .ok (.str l) O) (hi : i ρ O = .ok (.int (a : Int)) O) (hl : l.length ≤ 1000000) (hx : l[a]? = some x) : mBin gIx m i ρ O = .ok (.str [x]) O :=
  bin_ok hm hi (by rw [deref_str, deref_int, gIx_s, if_pos hl, atI_ofNat, hx]; rfl)
theorem ixL {m i : L2.M D} {ρ : DEnv} {O : Store} {l : List D} {a : Nat} {x : D} (hm : m ρ O = .ok (.lst l) O) (hi : i ρ O = .ok (.int (a : Int)) O) (hx : l[a]? = some x) : mBin gIx m i ρ O = .ok x O :=
  bin_ok hm hi (by rw [deref_lst, deref_int, gIx_l, atI_ofNat, hx])
def SG : List Nat := [32, 33, 34, 35, 36, 38, 39, 40, 41, 42, 43, 44, 45, 46, 47, 48, 49, 50, 51, 52, 53, 54, 55, 56, 57, 58, 59, 60, 61, 62, 63, 64, 65, 66, 67, 68, 69, 70, 71, 72, 73, 74, 75, 76, 77, 78, 79, 80, 81, 82, 83, 84, 85, 86, 87, 88, 89, 90, 91, 92, 93, 94, 95, 96, 97, 98, 99, 100, 101, 102, 103, 104, 105, 106, 107, 108, 109, 110, 111, 112, 113, 114, 115, 116, 117, 118, 119, 120, 121, 122, 123, 124, 125]
theorem e_signs (ρ : DEnv) (O : Store) : mCall c_law_signs maNil ρ O = .ok (.str SG) O := rfl
theorem SG_asc : ∀ c ∈ SG, c < 128 := by decide
theorem SG_len : SG.length = 93 := by decide
theorem SG_at {i : Nat} (h : i < 93) : ∃ c, SG[i]? = some c ∧ c ∈ SG := ⟨SG[i]'(by rw [SG_len]; exact h), List.getElem?_eq_getElem _, List.getElem_mem _⟩
theorem SG_32 {i : Nat} {c : Nat} (hi : SG[i + 1]? = some c) : c ≠ 32 := by
  have hm : c ∈ SG.drop 1 := by
    rw [List.mem_iff_getElem?]
    exact ⟨i, by rw [List.getElem?_drop, Nat.add_comm]; exact hi⟩
  exact (show ∀ c ∈ SG.drop 1, c ≠ 32 by decide) c hm
def DG : List Nat := [48, 49, 50, 51, 52, 53, 54, 55, 56, 57]
def dgA (c : Int) (i : Nat) : Nat := (DG[(mix c (2 + (i : Int)) % 10).toNat]?).getD 48
theorem dgA_ok (c : Int) (i : Nat) : DG[(mix c (2 + (i : Int)) % 10).toNat]? = some (dgA c i) ∧ dgA c i < 128 := by
  have h0 := Int.emod_nonneg (mix c (2 + (i : Int))) (show (10 : Int) ≠ 0 by decide)
  have h1 := Int.emod_lt_of_pos (mix c (2 + (i : Int))) (show (0 : Int) < 10 by decide)
  have hl : (mix c (2 + (i : Int)) % 10).toNat < DG.length := by
    show _ < 10
    omega
  have e := List.getElem?_eq_getElem hl
  unfold dgA
  rw [e]
  exact ⟨rfl, (show ∀ c ∈ DG, c < 128 by decide) _ (List.getElem_mem hl)⟩
theorem ones_sum : ∀ ls : List Nat, ((ls.map fun x => [x]).map List.length).sum = ls.length
  | [] => rfl
  | a :: r => by
    rw [List.map_cons, List.map_cons, List.sum_cons, ones_sum r]
    show 1 + r.length = r.length + 1
    omega
theorem ones_flat : ∀ ls : List Nat, (ls.map fun x => [x]).flatten = ls
  | [] => rfl
  | a :: r => by
    rw [List.map_cons, List.flatten_cons, ones_flat r]
    rfl
theorem joinS {m : L2.M D} {ρ : DEnv} {O : Store} {ls : List Nat} (h : m ρ O = .ok (.lst (ls.map fun x => D.str [x])) O) (hl : ls.length ≤ 1000) : mJoin m ρ O = .ok (.str ls) O := by
  rw [m_join, h, bind_ok', deref_lst, jdF_l, strsD_map, joF_some, if_pos (by rw [ones_sum]; omega), ones_flat]
theorem gStr_n {j : Nat} {O : Store} (h : j < 1000000000) : gStr ([D.int (j : Int)].map (deref O)) = some (.str ((Nat.toDigits 10 j).map Char.toNat)) := by
  rw [List.map_cons, List.map_nil, deref_int]
  unfold gStr
  dsimp only
  rw [if_pos ⟨by omega, by omega⟩, Int.toNat_natCast]
theorem digs_asc (n : Nat) : asc ((Nat.toDigits 10 n).map Char.toNat) := fun c hc => by
  obtain ⟨x, hx, rfl⟩ := List.mem_map.mp hc
  have h := Nat.isDigit_of_mem_toDigits (by decide) (by decide) hx
  unfold Char.isDigit at h
  rw [Bool.and_eq_true, decide_eq_true_eq, decide_eq_true_eq] at h
  have h2 : x.val.toNat ≤ 57 := h.2
  show x.val.toNat < 128
  omega
theorem asc_app {a b : List Nat} (ha : asc a) (hb : asc b) : asc (a ++ b) := fun c hc => by
  rcases List.mem_append.mp hc with h | h
  · exact ha c h
  · exact hb c h
theorem asc_take {a : List Nat} (n : Nat) (ha : asc a) : asc (a.take n) := fun c hc => ha c (List.mem_of_mem_take hc)
theorem asc_drop {a : List Nat} (n : Nat) (ha : asc a) : asc (a.drop n) := fun c hc => ha c (List.mem_of_mem_drop hc)
theorem asc_1 {a : Nat} (h : a < 128) : asc [a] := fun c hc => by rw [List.mem_singleton.mp hc]; exact h
def eT (c : Int) (s w : Nat) (t : List Nat) (a : Nat) : DEnv := [some (.int c), some (.int (s : Int)), some (.int (w : Int)), some (.str t), some (.int (a : Int))]
theorem t_draw (c : Int) (n : Nat) (hn : n < 9) (w : Nat) (O : Store) : mJoin (mComp (mRng1 (maCons (mVar 1) maNil)) 1 [0] (mgN 0) mYes (mBin gIx (mC (.str [48, 49, 50, 51, 52, 53, 54, 55, 56, 57])) (mBin gMod (mCall c_law_mix (maCons (mVar 1) (maCons (mBin gAdd (mC (.int 2)) (mVar 0)) maNil))) (mC (.int 10))))) [some (.int c), some (.int (n : Int)), some (.int (w : Int)), none, none] O = .ok (.str ((List.range n).map (dgA c))) O := by
  have hc := cloop_mapT (g := mgN 0) (t := mYes) (m := mBin gIx (mC (.str [48, 49, 50, 51, 52, 53, 54, 55, 56, 57])) (mBin gMod (mCall c_law_mix (maCons (mVar 1) (maCons (mBin gAdd (mC (.int 2)) (mVar 0)) maNil))) (mC (.int 10)))) (fun ρ => ∃ a, ρ = [a, some (.int c)]) (fun i : Nat => D.int (i : Int)) (fun i => D.str [dgA c i]) (List.range n) [none, some (.int c)] O [] ⟨_, rfl⟩ (by
    rintro i hi ρ ⟨a, rfl⟩
    have hi' := List.mem_range.mp hi
    refine ⟨[some (.int (i : Int)), some (.int c)], rfl, ⟨_, rfl⟩, rfl, ?_⟩
    have h0 := Int.emod_nonneg (mix c (2 + (i : Int))) (show (10 : Int) ≠ 0 by decide)
    refine ixS (l := DG) (a := (mix c (2 + (i : Int)) % 10).toNat) rfl ?_ (by decide) (dgA_ok c i).1
    rw [mod_ok (mx_ok (c := c) rfl (add_i (i := 2) (j := (i : Int)) rfl rfl) (by omega) (by omega)) rfl (by decide), Int.toNat_of_nonneg h0])
  rw [List.nil_append] at hc
  refine joinS ?_ (by rw [List.length_map, List.length_range]; omega)
  have e : rangeD 0 n = (List.range n).map fun i : Nat => D.int (i : Int) := by
    unfold rangeD
    simp
  rw [List.map_map]
  exact comp_ok (ρ0 := [none, some (.int c)]) (rng_ok rfl (by omega)) (by rw [rangeD_len]; omega) rfl (by rw [e]; exact hc)
theorem e_text (c : Int) (O : Store) : ∃ t, asc t ∧ t.length ≤ 1000 ∧ c_law_text [.int c] O = .ok (.str t) O := by
  obtain ⟨n, hn, e1⟩ := mxm (a := mVar 0) (b := mC (.int 0)) (m := mC (.int 9)) (ρ := [some (.int c), none, none, none, none]) (O := O) (c := c) (k := 0) (n := 9) rfl rfl rfl (by decide) (by decide) (by decide)
  obtain ⟨w, hw, e2⟩ := mxm (a := mVar 0) (b := mC (.int 1)) (m := mC (.int 6)) (ρ := [some (.int c), some (.int (n : Int)), none, none, none]) (O := O) (c := c) (k := 1) (n := 6) rfl rfl rfl (by decide) (by decide) (by decide)
  obtain ⟨t, ht⟩ : ∃ t, t = (List.range n).map (dgA c) := ⟨_, rfl⟩
  have e3 := t_draw c n hn w O
  rw [← ht] at e3
  have tl : t.length = n := by rw [ht, List.length_map, List.length_range]
  have ta : asc t := fun x hx => by
    rw [ht] at hx
    obtain ⟨i, _, rfl⟩ := List.mem_map.mp hx
    exact (dgA_ok c i).2
  obtain ⟨a, ha, e4⟩ := mxm (a := mVar 0) (b := mC (.int 10)) (m := mBin gAdd (mVar 1) (mC (.int 1))) (ρ := [some (.int c), some (.int (n : Int)), some (.int (w : Int)), some (.str t), none]) (O := O) (c := c) (k := 10) (n := n + 1) rfl rfl (by rw [add_i (i := (n : Int)) (j := 1) rfl rfl]; rfl) (by omega) (by decide) (by decide)
  have pre : ∀ R : MS, (msSeq (msSet 1 (mBin gMod (mCall c_law_mix (maCons (mVar 0) (maCons (mC (.int 0)) maNil))) (mC (.int 9))))
    (msSeq (msSet 2 (mBin gMod (mCall c_law_mix (maCons (mVar 0) (maCons (mC (.int 1)) maNil))) (mC (.int 6))))
    (msSeq (msSet 3 (mJoin (mComp (mRng1 (maCons (mVar 1) maNil)) 1 [0] (mgN 0) mYes (mBin gIx (mC (.str [48, 49, 50, 51, 52, 53, 54, 55, 56, 57])) (mBin gMod (mCall c_law_mix (maCons (mVar 1) (maCons (mBin gAdd (mC (.int 2)) (mVar 0)) maNil))) (mC (.int 10)))))))
    (msSeq (msSet 4 (mBin gMod (mCall c_law_mix (maCons (mVar 0) (maCons (mC (.int 10)) maNil))) (mBin gAdd (mVar 1) (mC (.int 1))))) R)))) [some (.int c), none, none, none, none] O = R (eT c n w t a) O := fun R => by
    rw [ms_seq, set_ok e1, seqF_nx]
    show msSeq _ _ [some (.int c), some (.int (n : Int)), none, none, none] O = _
    rw [ms_seq, set_ok e2, seqF_nx]
    show msSeq _ _ [some (.int c), some (.int (n : Int)), some (.int (w : Int)), none, none] O = _
    rw [ms_seq, set_ok e3, seqF_nx]
    show msSeq _ _ [some (.int c), some (.int (n : Int)), some (.int (w : Int)), some (.str t), none] O = _
    rw [ms_seq, set_ok e4, seqF_nx]
    rfl
  have v3 : mVar 3 (eT c n w t a) O = .ok (.str t) O := rfl
  have v4 : mVar 4 (eT c n w t a) O = .ok (.int (a : Int)) O := rfl
  have tq : ∀ k : Int, mTest (mBin gEq (mVar 2) (mC (.int k))) (eT c n w t a) O = .ok (decide ((w : Int) = k)) O := fun k => eq_ok rfl rfl
  have n0 : w ≠ 0 → mTest (mBin gEq (mVar 2) (mC (.int 0))) (eT c n w t a) O = .ok false O := fun h => by rw [tq, decide_eq_false (by omega)]
  have y0 : w = 0 → mTest (mBin gEq (mVar 2) (mC (.int 0))) (eT c n w t a) O = .ok true O := fun h => by rw [tq, decide_eq_true (by omega)]
  have n1 : w ≠ 1 → mTest (mBin gEq (mVar 2) (mC (.int 1))) (eT c n w t a) O = .ok false O := fun h => by rw [tq, decide_eq_false (by omega)]
  have y1 : w = 1 → mTest (mBin gEq (mVar 2) (mC (.int 1))) (eT c n w t a) O = .ok true O := fun h => by rw [tq, decide_eq_true (by omega)]
  have n2 : w ≠ 2 → mTest (mBin gEq (mVar 2) (mC (.int 2))) (eT c n w t a) O = .ok false O := fun h => by rw [tq, decide_eq_false (by omega)]
  have y2 : w = 2 → mTest (mBin gEq (mVar 2) (mC (.int 2))) (eT c n w t a) O = .ok true O := fun h => by rw [tq, decide_eq_true (by omega)]
  have n3 : w ≠ 3 → mTest (mBin gEq (mVar 2) (mC (.int 3))) (eT c n w t a) O = .ok false O := fun h => by rw [tq, decide_eq_false (by omega)]
  have y3 : w = 3 → mTest (mBin gEq (mVar 2) (mC (.int 3))) (eT c n w t a) O = .ok true O := fun h => by rw [tq, decide_eq_true (by omega)]
  have go : ∀ t', c_law_text [.int c] O = .ok (.str t') O ↔ funF (b_law_text [some (.int c), none, none, none, none] O) = .ok (.str t') O := fun t' => Iff.rfl
  by_cases h0 : w = 0
  · obtain ⟨i, hi, ei⟩ := mxm (a := mVar 0) (b := mC (.int 11)) (m := mC (.int 93)) (ρ := eT c n w t a) (O := O) (c := c) (k := 11) (n := 93) rfl rfl rfl (by decide) (by decide) (by decide)
    obtain ⟨x, hx, hxm⟩ := SG_at hi
    refine ⟨t.take a ++ [x] ++ t.drop a, asc_app (asc_app (asc_take a ta) (asc_1 (SG_asc x hxm))) (asc_drop a ta), ?_, ?_⟩
    · rw [List.length_append, List.length_append, List.length_take, List.length_drop]
      show _ + 1 + _ ≤ _
      omega
    · rw [go]
      unfold b_law_text
      have l1 : (t.take a).length ≤ 9 := by rw [List.length_take]; omega
      have l2 : (t.drop a).length ≤ 9 := by rw [List.length_drop]; omega
      rw [pre, ms_seq, if_yes (y0 h0), ms_ret, addS (addS (slA v3 v4 (by omega)) (ixS (e_signs _ _) ei (by decide) hx) (by show _ + 1 ≤ _; omega)) (slB v3 v4 (by omega)) (by rw [List.length_append]; show _ + 1 + _ ≤ _; omega)]
      rfl
  by_cases h1 : w = 1
  · obtain ⟨i, hi, ei⟩ := mxm (a := mVar 0) (b := mC (.int 11)) (m := mC (.int 3)) (ρ := eT c n w t a) (O := O) (c := c) (k := 11) (n := 3) rfl rfl rfl (by decide) (by decide) (by decide)
    have l1 : (t.take i).length ≤ 9 := by rw [List.length_take]; omega
    refine ⟨[48] ++ t.take i, asc_app (asc_1 (by decide)) (asc_take i ta), ?_, ?_⟩
    · rw [List.length_append]
      show 1 + _ ≤ _
      omega
    · rw [go]
      unfold b_law_text
      rw [pre, ms_seq, if_no (n0 h0), ms_nil, seqF_nx, ms_seq, if_yes (y1 h1), ms_ret, addS (x := [48]) rfl (slA v3 ei (by omega)) (by show 1 + _ ≤ _; omega)]
      rfl
  by_cases h2 : w = 2
  · obtain ⟨i, hi, ei⟩ := mxm (a := mVar 0) (b := mC (.int 12)) (m := mC (.int 4)) (ρ := eT c n w t a) (O := O) (c := c) (k := 12) (n := 4) rfl rfl rfl (by decide) (by decide) (by decide)
    have el : mLst (maCons (mC (.int 10)) (maCons (mC (.int 1000)) (maCons (mBin gPow (mC (.int 10)) (mC (.int 6))) (maCons (mBin gPow (mC (.int 10)) (mC (.int 7))) maNil)))) (eT c n w t a) O = .ok (.lst [.int ((10 : Nat) : Int), .int ((1000 : Nat) : Int), .int ((1000000 : Nat) : Int), .int ((10000000 : Nat) : Int)]) O := rfl
    obtain ⟨b, hb1, hb2, eb⟩ : ∃ b : Nat, 0 < b ∧ b ≤ 10000000 ∧ [D.int ((10 : Nat) : Int), .int ((1000 : Nat) : Int), .int ((1000000 : Nat) : Int), .int ((10000000 : Nat) : Int)][i]? = some (.int (b : Int)) := by
      match i, hi with
      | 0, _ => exact ⟨10, by decide, by decide, rfl⟩
      | 1, _ => exact ⟨1000, by decide, by decide, rfl⟩
      | 2, _ => exact ⟨1000000, by decide, by decide, rfl⟩
      | 3, _ => exact ⟨10000000, by decide, by decide, rfl⟩
    obtain ⟨j, hj, ej⟩ := mxm (a := mVar 0) (b := mC (.int 11)) (ρ := eT c n w t a) (O := O) (c := c) (k := 11) (n := b) rfl rfl (ixL el ei eb) hb1 (by decide) (by decide)
    refine ⟨_, digs_asc j, ?_, ?_⟩
    · rw [List.length_map]
      have := (Nat.length_toDigits_le_iff (b := 10) (n := j) (k := 8) (by decide) (by decide)).mpr (by omega)
      omega
    · rw [go]
      unfold b_law_text
      rw [pre, ms_seq, if_no (n0 h0), ms_nil, seqF_nx, ms_seq, if_no (n1 h1), ms_nil, seqF_nx, ms_seq, if_yes (y2 h2), ms_ret, callB_ok (ma1 ej) (gStr_n (by omega))]
      rfl
  by_cases h3 : w = 3
  · obtain ⟨i, hi, ei⟩ := mxm (a := mVar 0) (b := mC (.int 11)) (m := mC (.int 5)) (ρ := eT c n w t a) (O := O) (c := c) (k := 11) (n := 5) rfl rfl rfl (by decide) (by decide) (by decide)
    have el : mLst (maCons (mBin gAdd (mC (.str [45])) (mVar 3)) (maCons (mBin gAdd (mC (.str [43])) (mVar 3)) (maCons (mBin gAdd (mC (.str [32])) (mVar 3)) (maCons (mBin gAdd (mVar 3) (mC (.str [32]))) (maCons (mBin gAdd (mVar 3) (mC (.str [10]))) maNil))))) (eT c n w t a) O = .ok (.lst [.str ([45] ++ t), .str ([43] ++ t), .str ([32] ++ t), .str (t ++ [32]), .str (t ++ [10])]) O :=
      lstA (maS (addS rfl v3 (by show 1 + _ ≤ _; omega)) (maS (addS rfl v3 (by show 1 + _ ≤ _; omega)) (maS (addS rfl v3 (by show 1 + _ ≤ _; omega)) (maS (addS v3 rfl (by show _ + 1 ≤ _; omega)) (ma1 (addS v3 rfl (by show _ + 1 ≤ _; omega))))))) (show (5 : Nat) ≤ 1000000 by decide)
    obtain ⟨b, hb1, hb2, eb⟩ : ∃ b : List Nat, asc b ∧ b.length ≤ 1000 ∧ [D.str ([45] ++ t), .str ([43] ++ t), .str ([32] ++ t), .str (t ++ [32]), .str (t ++ [10])][i]? = some (.str b) := by
      match i, hi with
      | 0, _ => exact ⟨_, asc_app (asc_1 (by decide)) ta, by rw [List.length_append]; show 1 + _ ≤ _; omega, rfl⟩
      | 1, _ => exact ⟨_, asc_app (asc_1 (by decide)) ta, by rw [List.length_append]; show 1 + _ ≤ _; omega, rfl⟩
      | 2, _ => exact ⟨_, asc_app (asc_1 (by decide)) ta, by rw [List.length_append]; show 1 + _ ≤ _; omega, rfl⟩
      | 3, _ => exact ⟨_, asc_app ta (asc_1 (by decide)), by rw [List.length_append]; show _ + 1 ≤ _; omega, rfl⟩
      | 4, _ => exact ⟨_, asc_app ta (asc_1 (by decide)), by rw [List.length_append]; show _ + 1 ≤ _; omega, rfl⟩
    refine ⟨b, hb1, hb2, ?_⟩
    rw [go]
    unfold b_law_text
    rw [pre, ms_seq, if_no (n0 h0), ms_nil, seqF_nx, ms_seq, if_no (n1 h1), ms_nil, seqF_nx, ms_seq, if_no (n2 h2), ms_nil, seqF_nx, ms_seq, if_yes (y3 h3), ms_ret, ixL el ei eb]
    rfl
  · refine ⟨t, ta, by omega, ?_⟩
    rw [go]
    unfold b_law_text
    rw [pre, ms_seq, if_no (n0 h0), ms_nil, seqF_nx, ms_seq, if_no (n1 h1), ms_nil, seqF_nx, ms_seq, if_no (n2 h2), ms_nil, seqF_nx, ms_seq, if_no (n3 h3), ms_nil, seqF_nx, ms_ret, v3]
    rfl
def Wd (w : List Nat) : Prop := w ≠ [] ∧ w.length ≤ 7 ∧ (∀ a ∈ w, a ≠ 32) ∧ asc w
def B_wds : MS := (msSeq (msSet 3 (mBin gAdd (mC (.int 14)) (mBin gMul (mC (.int 4)) (mVar 2))))
    (msSeq (msSet 4 (mBin gMul (mBin gIx (mCall c_law_signs maNil) (mBin gAdd (mC (.int 1)) (mBin gMod (mCall c_law_mix (maCons (mVar 0) (maCons (mVar 3) maNil))) (mC (.int 92))))) (mBin gAdd (mC (.int 1)) (mBin gMod (mCall c_law_mix (maCons (mVar 0) (maCons (mBin gAdd (mVar 3) (mC (.int 1))) maNil))) (mC (.int 4))))))
    (msApp 1 (mBin gAdd (mVar 4) (mBin gIx (mLst (maCons (mC (.str [])) (maCons (mC (.str [10])) (maCons (mC (.str [55])) (maCons (mC (.str [97, 9, 98])) maNil))))) (mBin gMod (mCall c_law_mix (maCons (mVar 0) (maCons (mBin gAdd (mVar 3) (mC (.int 2))) maNil))) (mC (.int 4))))))))
def eW (c : Int) (ws : List (List Nat)) (a2 a3 a4 : Option D) : DEnv := [some (.int c), some (.lst (ws.map D.str)), a2, a3, a4]
theorem add1 {m : L2.M D} {ρ : DEnv} {O : Store} {i : Nat} (h : m ρ O = .ok (.int (i : Int)) O) : mBin gAdd (mC (.int 1)) m ρ O = .ok (.int ((i + 1 : Nat) : Int)) O := by
  rw [add_i (i := 1) rfl h]
  congr 2
  omega
theorem wds_turn (c : Int) (ws : List (List Nat)) (i : Nat) (hi : i < 7) (hl : ws.length ≤ 100) (a3 a4 : Option D) (O : Store) : ∃ w b3 b4, Wd w ∧ B_wds (eW c ws (some (.int (i : Int))) a3 a4) O = .nx (eW c (ws ++ [w]) (some (.int (i : Int))) b3 b4) O := by
  have e3 : mBin gAdd (mC (.int 14)) (mBin gMul (mC (.int 4)) (mVar 2)) (eW c ws (some (.int (i : Int))) a3 a4) O = .ok (.int ((14 + 4 * i : Nat) : Int)) O := by
    rw [add_i (i := 14) (j := 4 * (i : Int)) rfl (bin_ok (x := .int 4) (y := .int (i : Int)) rfl rfl (gMul_i (.inl ⟨by decide, by decide⟩)))]
    congr 2
  obtain ⟨st, hst⟩ : ∃ st : Nat, st = 14 + 4 * i := ⟨_, rfl⟩
  rw [← hst] at e3
  have hs1 : st ≤ 100 := by omega
  have v3 : ∀ a4 : Option D, mVar 3 (eW c ws (some (.int (i : Int))) (some (.int (st : Int))) a4) O = .ok (.int (st : Int)) O := fun _ => rfl
  obtain ⟨p, hp, ep⟩ := mxm (a := mVar 0) (b := mVar 3) (m := mC (.int 92)) (ρ := eW c ws (some (.int (i : Int))) (some (.int (st : Int))) a4) (O := O) (c := c) (k := (st : Int)) (n := 92) rfl rfl rfl (by decide) (by omega) (by omega)
  obtain ⟨q, hq, eq⟩ := mxm (a := mVar 0) (b := mBin gAdd (mVar 3) (mC (.int 1))) (m := mC (.int 4)) (ρ := eW c ws (some (.int (i : Int))) (some (.int (st : Int))) a4) (O := O) (c := c) (k := (st : Int) + 1) (n := 4) rfl (add_i rfl rfl) rfl (by decide) (by omega) (by omega)
  obtain ⟨x, hx, hxm⟩ := SG_at (i := p + 1) (by omega)
  have x32 := SG_32 hx
  have e4 : mBin gMul (mBin gIx (mCall c_law_signs maNil) (mBin gAdd (mC (.int 1)) (mBin gMod (mCall c_law_mix (maCons (mVar 0) (maCons (mVar 3) maNil))) (mC (.int 92))))) (mBin gAdd (mC (.int 1)) (mBin gMod (mCall c_law_mix (maCons (mVar 0) (maCons (mBin gAdd (mVar 3) (mC (.int 1))) maNil))) (mC (.int 4)))) (eW c ws (some (.int (i : Int))) (some (.int (st : Int))) a4) O = .ok (.str (List.replicate (q + 1) x)) O := by
    refine bin_ok (ixS (e_signs _ _) (add1 ep) (by decide) hx) (add1 eq) ?_
    show (if -1000000 < ((q + 1 : Nat) : Int) ∧ ((q + 1 : Nat) : Int) < 1000000 ∧ [x].length * ((q + 1 : Nat) : Int).toNat ≤ 16777216 then some (D.str (List.replicate ((q + 1 : Nat) : Int).toNat [x]).flatten) else none) = _
    rw [Int.toNat_natCast, if_pos ⟨by omega, by omega, by show 1 * (q + 1) ≤ _; omega⟩, List.flatten_replicate_singleton]
  obtain ⟨w4, hw4⟩ : ∃ w4, w4 = List.replicate (q + 1) x := ⟨_, rfl⟩
  have l4 : w4.length = q + 1 := by rw [hw4, List.length_replicate]
  rw [← hw4] at e4
  obtain ⟨r, hr, er⟩ := mxm (a := mVar 0) (b := mBin gAdd (mVar 3) (mC (.int 2))) (m := mC (.int 4)) (ρ := eW c ws (some (.int (i : Int))) (some (.int (st : Int))) (some (.str w4))) (O := O) (c := c) (k := (st : Int) + 2) (n := 4) rfl (add_i rfl rfl) rfl (by decide) (by omega) (by omega)
  obtain ⟨s, hs, hsl, es⟩ : ∃ s : List Nat, (∀ a ∈ s, a ≠ 32 ∧ a < 128) ∧ s.length ≤ 3 ∧ [D.str [], D.str [10], D.str [55], D.str [97, 9, 98]][r]? = some (.str s) := by
    match r, hr with
    | 0, _ => exact ⟨[], by decide, by decide, rfl⟩
    | 1, _ => exact ⟨[10], by decide, by decide, rfl⟩
    | 2, _ => exact ⟨[55], by decide, by decide, rfl⟩
    | 3, _ => exact ⟨[97, 9, 98], by decide, by decide, rfl⟩
  have ea : mBin gAdd (mVar 4) (mBin gIx (mLst (maCons (mC (.str [])) (maCons (mC (.str [10])) (maCons (mC (.str [55])) (maCons (mC (.str [97, 9, 98])) maNil))))) (mBin gMod (mCall c_law_mix (maCons (mVar 0) (maCons (mBin gAdd (mVar 3) (mC (.int 2))) maNil))) (mC (.int 4)))) (eW c ws (some (.int (i : Int))) (some (.int (st : Int))) (some (.str w4))) O = .ok (.str (w4 ++ s)) O :=
    addS (x := w4) rfl (ixL (l := [D.str [], D.str [10], D.str [55], D.str [97, 9, 98]]) rfl er es) (by omega)
  refine ⟨w4 ++ s, some (.int (st : Int)), some (.str w4), ⟨?_, ?_, ?_, ?_⟩, ?_⟩
  · intro z
    have := congrArg List.length z
    rw [List.length_append, l4] at this
    exact absurd this (by show q + 1 + s.length ≠ 0; omega)
  · rw [List.length_append, l4]
    omega
  · intro a ha
    rcases List.mem_append.mp ha with ha | ha
    · rw [hw4] at ha
      rw [(List.mem_replicate.mp ha).2]
      exact x32
    · exact (hs a ha).1
  · refine asc_app (fun a ha => ?_) fun a ha => (hs a ha).2
    rw [hw4] at ha
    rw [(List.mem_replicate.mp ha).2]
    exact SG_asc x hxm
  · unfold B_wds
    rw [ms_seq, set_ok e3, seqF_nx]
    show msSeq _ _ (eW c ws (some (.int (i : Int))) (some (.int (st : Int))) a4) O = _
    rw [ms_seq, set_ok e4, seqF_nx]
    show msApp 1 _ (eW c ws (some (.int (i : Int))) (some (.int (st : Int))) (some (.str w4))) O = _
    rw [app_ok ea (ds := ws.map D.str) rfl (by rw [List.length_map]; omega)]
    unfold eW
    rw [List.map_append]
    rfl
theorem e_words (c : Int) (O : Store) : ∃ ws : List (List Nat), ws.length ≤ 6 ∧ (∀ w ∈ ws, Wd w) ∧ c_law_words [.int c] O = .ok (.lst (ws.map D.str)) O := by
  obtain ⟨n, hn, en⟩ := mxm (a := mVar 0) (b := mC (.int 13)) (m := mC (.int 7)) (ρ := eW c [] none none none) (O := O) (c := c) (k := 13) (n := 7) rfl rfl rfl (by decide) (by decide) (by decide)
  obtain ⟨ρ', O', e1, e2, ws, a2, a3, a4, h1, h2, h3⟩ := floop_ind (g := mgN 2) (b := B_wds) (fun k ρ O' => O' = O ∧ ∃ ws a2 a3 a4, ws.length = k ∧ (∀ w ∈ ws, Wd w) ∧ ρ = eW c ws a2 a3 a4) (rangeD 0 n) 0 (eW c [] none none none) O ⟨rfl, [], none, none, none, rfl, (fun w hw => nomatch hw), rfl⟩ (by
    rintro i d ρ O1 hd ⟨rfl, ws, a2, a3, a4, h1, h2, rfl⟩
    have hi : i < n := by
      have := (List.getElem?_eq_some_iff.mp hd).1
      rwa [rangeD_len] at this
    have hd' : d = .int (i : Int) := by
      have e : rangeD 0 n = (List.range n).map fun i : Nat => D.int (i : Int) := by
        unfold rangeD
        simp
      rw [e, List.getElem?_map, List.getElem?_range hi] at hd
      cases hd
      rfl
    subst hd'
    obtain ⟨w, b3, b4, hw, ew⟩ := wds_turn c ws i (by omega) (by omega) a3 a4 O1
    refine ⟨eW c ws (some (.int (i : Int))) a3 a4, rfl, _, _, .inl ew, rfl, ws ++ [w], _, _, _, ?_, ?_, rfl⟩
    · rw [List.length_append, h1]
      rfl
    · intro v hv
      rcases List.mem_append.mp hv with hv | hv
      · exact h2 v hv
      · rw [List.mem_singleton.mp hv]
        exact hw)
  subst e2
  subst h3
  rw [Nat.zero_add, rangeD_len] at h1
  refine ⟨ws, by omega, h2, ?_⟩
  show funF (b_law_words [some (.int c), none, none, none, none] O') = _
  unfold b_law_words
  rw [ms_seq, set_ok (d := .lst []) rfl, seqF_nx, ms_seq]
  show funF (seqF (msFor _ (mgN 2) B_wds (eW c [] none none none) O') _) = _
  rw [ms_for, rng_ok en (by omega), forF_ok, e1, seqF_nx]
  rfl
theorem Wd.asc {w : List Nat} (h : Wd w) : asc w := h.2.2.2
theorem glue_len : ∀ {ws : List (List Nat)}, (∀ w ∈ ws, Wd w) → (glueB [32] ws).length ≤ 8 * ws.length
  | [], _ => Nat.zero_le _
  | [w], h => by
    have := (h w (List.mem_singleton.mpr rfl)).2.1
    show w.length ≤ 8 * 1
    omega
  | w :: v :: r, h => by
    have h1 := (h w (List.mem_cons_self ..)).2.1
    have h2 := glue_len (ws := v :: r) fun u hu => h u (List.mem_cons_of_mem _ hu)
    show (w ++ [32] ++ glueB [32] (v :: r)).length ≤ _
    rw [List.length_append, List.length_append, List.length_cons (a := w)]
    show w.length + 1 + _ ≤ _
    omega
theorem glue_asc : ∀ {ws : List (List Nat)}, (∀ w ∈ ws, Wd w) → asc (glueB [32] ws)
  | [], _ => fun c hc => nomatch hc
  | [w], h => (h w (List.mem_singleton.mpr rfl)).asc
  | w :: v :: r, h => asc_app (asc_app (h w (List.mem_cons_self ..)).asc (asc_1 (by decide))) (glue_asc (ws := v :: r) fun u hu => h u (List.mem_cons_of_mem _ hu))
theorem sum_le7 : ∀ {ws : List (List Nat)}, (∀ w ∈ ws, Wd w) → (ws.map List.length).sum ≤ 7 * ws.length
  | [], _ => Nat.le_refl _
  | w :: r, h => by
    have h1 := (h w (List.mem_cons_self ..)).2.1
    have h2 := sum_le7 (ws := r) fun u hu => h u (List.mem_cons_of_mem _ hu)
    rw [List.map_cons, List.sum_cons, List.length_cons]
    omega
theorem glue_ok {m : L2.M D} {ρ : DEnv} {O : Store} {ws : List (List Nat)} (h : m ρ O = .ok (.lst (ws.map D.str)) O) (hw : ∀ w ∈ ws, Wd w) (hl : ws.length ≤ 6) : mGlue [32] m ρ O = .ok (.str (glueB [32] ws)) O := by
  have hs := sum_le7 hw
  have e : strsD (ws.map D.str) = some ws := by
    have := strsD_map (f := fun x : List Nat => x) ws
    rw [this, List.map_id']
  unfold mGlue
  rw [h, bind_ok', deref_lst]
  dsimp only
  rw [e]
  dsimp only
  rw [if_pos (by show _ + ws.length * 1 ≤ _; omega)]
theorem okE_ws {ws : List (List Nat)} (hw : ∀ w ∈ ws, asc w) : okE (.lst (ws.map D.str)) = true := okE_lst (n := 5) (by decide) fun d hd => by
  obtain ⟨w, hm, rfl⟩ := List.mem_map.mp hd
  exact ⟨rfl, lay_str fun c hc => Nat.lt_trans (hw w hm c hc) (by decide), by first | exact Nat.zero_le 5 | (show PyData.depth (.str _) ≤ 5; simp [PyData.depth])⟩
theorem eq_ws {ws : List (List Nat)} (hw : ∀ w ∈ ws, asc w) : gEq (.lst (ws.map D.str)) (.lst (ws.map D.str)) = some (.bl true) := by
  rw [gEq_l, okE_ws hw, Bool.and_self, if_pos rfl, eqDD_refl (okE_ws hw)]
theorem ne_ws {ws : List (List Nat)} (hw : ∀ w ∈ ws, asc w) : gNe (.lst (ws.map D.str)) (.lst (ws.map D.str)) = some (.bl false) := by
  rw [gNe_l, okE_ws hw, Bool.and_self, if_pos rfl, eqDD_refl (okE_ws hw)]
  rfl
theorem eq_nil {w : List Nat} {r : List (List Nat)} (hw : ∀ u ∈ w :: r, asc u) : gEq (.lst ((w :: r).map D.str)) (.lst []) = some (.bl false) := by
  rw [gEq_l, okE_ws hw, show okE (.lst []) = true from rfl, Bool.and_self, if_pos rfl]
  rfl
theorem gap_at {l : List Nat} {p : Nat} (h : l.take p = [] ∨ l.drop p = [] ∨ ∃ y, l.drop p = 32 :: y) (hl : l.length ≤ 100) (ha : asc l) (O : Store) : c_law_refused [.str (l.take p ++ [32] ++ l.drop p)] O = .ok (.bl true) O := by
  refine refused_ex (wo_ex _ ?_ (asc_app (asc_app (asc_take p ha) (asc_1 (by decide))) (asc_drop p ha)) ?_ O)
  · rw [List.length_append, List.length_append, List.length_take, List.length_drop]
    show _ + 1 + _ ≤ _
    omega
  · rw [List.append_assoc, List.singleton_append]
    exact spl_gap h
theorem at_32 {l : List Nat} {i : Nat} (h : l[i]? = some 32) : ∃ y, l.drop i = 32 :: y := by
  obtain ⟨h1, h2⟩ := List.getElem?_eq_some_iff.mp h
  exact ⟨l.drop (i + 1), by rw [List.drop_eq_getElem_cons h1, h2]⟩
def eR (ws : List (List Nat)) (c : Int) (a2 a3 a4 : Option D) : DEnv := [some (.lst (ws.map D.str)), some (.int c), a2, a3, a4]
theorem e_row (ws : List (List Nat)) (hl : ws.length ≤ 6) (hw : ∀ w ∈ ws, Wd w) (c : Int) (O : Store) : c_law_row_right [.lst (ws.map D.str), .int c] O = .ok (.bl true) O := by
  show funF (b_law_row_right (eR ws c none none none) O) = _
  obtain ⟨l, hL⟩ : ∃ l, l = glueB [32] ws := ⟨_, rfl⟩
  have ha : asc l := hL ▸ glue_asc hw
  have hll : l.length ≤ 48 := by
    have := glue_len hw
    rw [hL]
    omega
  have hwa : ∀ w ∈ ws, asc w := fun w h => (hw w h).asc
  have e1 : mGlue [32] (mVar 0) (eR ws c none none none) O = .ok (.str l) O := by rw [hL]; exact glue_ok rfl hw hl
  unfold b_law_row_right
  rw [ms_seq, set_ok e1, seqF_nx]
  show funF (msSeq _ _ (eR ws c (some (.str l)) none none) O) = _
  rw [ms_seq]
  cases ws with
  | nil =>
    have t : mTest (mBin gEq (mVar 0) (mLst maNil)) (eR [] c (some (.str l)) none none) O = .ok true O := rfl
    have l0 : l = [] := hL
    subst l0
    rw [if_yes t, ms_ret, call_ok (ma1 (x := .str []) rfl), refused_ex (wo_ex [] (by decide) ha (List.mem_singleton.mpr rfl) O)]
    rfl
  | cons w r =>
    have hs : spl l = w :: r := by rw [hL]; exact spl_glue _ (fun z => nomatch z) fun u hu => (hw u hu).2.2.1
    have hn : [] ∉ spl l := by
      rw [hs]
      exact fun z => (hw [] z).1 rfl
    have t : mTest (mBin gEq (mVar 0) (mLst maNil)) (eR (w :: r) c (some (.str l)) none none) O = .ok false O := test_ok (bin_ok (x := .lst ((w :: r).map D.str)) (y := .lst []) rfl rfl (eq_nil hwa))
    have wo : ∀ a3 a4 : Option D, mCall c_words_of (maCons (mVar 2) maNil) (eR (w :: r) c (some (.str l)) a3 a4) O = .ok (.lst ((w :: r).map D.str)) O := fun a3 a4 => by
      rw [call_ok (ma1 (x := .str l) rfl), wo_ok l (by omega) ha hn O, hs]
    rw [if_no t, ms_nil, seqF_nx, ms_seq, set_ok (wo none none), seqF_nx]
    show funF (msSeq _ _ (eR (w :: r) c (some (.str l)) (some (.lst ((w :: r).map D.str))) none) O) = _
    have t2 : mtOr (mtNot (mTru (mIsi "list" (mVar 3)))) (mTest (mBin gNe (mVar 3) (mVar 0))) (eR (w :: r) c (some (.str l)) (some (.lst ((w :: r).map D.str))) none) O = .ok false O := by
      rw [mt_or, nt_y (b := true) rfl, bind_ok', Bool.not_true, if_neg Bool.false_ne_true]
      exact test_ok (bin_ok (x := .lst ((w :: r).map D.str)) (y := .lst ((w :: r).map D.str)) rfl rfl (ne_ws hwa))
    rw [ms_seq, if_no t2, ms_nil, seqF_nx, ms_seq, app_ok (d := .str [122]) (ds := (w :: r).map D.str) rfl rfl (by rw [List.length_map]; omega), seqF_nx]
    obtain ⟨F, hF⟩ : ∃ F : Option D, F = some (.lst ((w :: r).map D.str ++ [.str [122]])) := ⟨_, rfl⟩
    show funF (msSeq _ _ [some (.lst ((w :: r).map D.str)), some (.int c), some (.str l), some (.lst ((w :: r).map D.str ++ [.str [122]])), none] O) = _
    rw [← hF]
    show funF (msSeq _ _ (eR (w :: r) c (some (.str l)) F none) O) = _
    obtain ⟨i, hi, ei⟩ := mxm (a := mVar 1) (b := mC (.int 39)) (m := mC (.int 4)) (ρ := eR (w :: r) c (some (.str l)) F none) (O := O) (c := c) (k := 39) (n := 4) rfl rfl rfl (by decide) (by decide) (by decide)
    have el : mLst (maCons (mC (.int 0)) (maCons (mCallB gLen (maCons (mVar 2) maNil)) (maCons (mFind (mVar 2) (mC (.str [32]))) (maCons (mCallB gLen (maCons (mBin gIx (mVar 0) (mC (.int 0))) maNil)) maNil)))) (eR (w :: r) c (some (.str l)) F none) O = .ok (.lst [.int 0, .int (l.length : Int), .int (Txt.find (S l) (S [32])), .int (w.length : Int)]) O := by
      have w7 := (hw w (List.mem_cons_self ..)).2.1
      refine lstA (maS rfl (maS (callB_ok (ma1 (x := .str l) rfl) ?_) (maS rfl (ma1 (callB_ok (ma1 (x := .str w) ?_) ?_))))) (show (4 : Nat) ≤ 1000000 by decide)
      · show gLen [.str l] = _
        rw [gLen_s, if_pos (by omega)]
      · exact ixL (l := (w :: r).map D.str) (a := 0) rfl rfl rfl
      · show gLen [.str w] = _
        rw [gLen_s, if_pos (by omega)]
    obtain ⟨v, ev, hv⟩ : ∃ v : Int, [D.int 0, .int (l.length : Int), .int (Txt.find (S l) (S [32])), .int (w.length : Int)][i]? = some (.int v) ∧ (v = -1 ∨ ∃ p : Nat, v = (p : Int) ∧ (l.take p = [] ∨ l.drop p = [] ∨ ∃ y, l.drop p = 32 :: y)) := by
      match i, hi with
      | 0, _ => exact ⟨0, rfl, .inr ⟨0, rfl, .inl List.take_zero⟩⟩
      | 1, _ => exact ⟨_, rfl, .inr ⟨l.length, rfl, .inr (.inl List.drop_length)⟩⟩
      | 2, _ =>
        refine ⟨_, rfl, ?_⟩
        rcases find_at l with h | ⟨j, h1, h2⟩
        · exact .inl h
        · exact .inr ⟨j, h1, .inr (.inr (at_32 h2))⟩
      | 3, _ =>
        refine ⟨_, rfl, .inr ⟨w.length, rfl, .inr ?_⟩⟩
        cases r with
        | nil =>
          left
          rw [hL]
          exact List.drop_length
        | cons u r =>
          right
          refine ⟨glueB [32] (u :: r), ?_⟩
          rw [hL]
          show (w ++ [32] ++ glueB [32] (u :: r)).drop w.length = _
          rw [List.append_assoc, List.drop_left]
          rfl
    rw [ms_seq, set_ok (ixL el ei ev), seqF_nx]
    show funF (msSeq _ _ (eR (w :: r) c (some (.str l)) F (some (.int v))) O) = _
    have t3 : mtAnd (mTest (mBin gGe (mVar 4) (mC (.int 0)))) (mtNot (mTru (mCall c_law_refused (maCons (mBin gAdd (mBin gAdd (mSl (mVar 2) moN (moS (mVar 4))) (mC (.str [32]))) (mSl (mVar 2) (moS (mVar 4)) moN)) maNil)))) (eR (w :: r) c (some (.str l)) F (some (.int v))) O = .ok false O := by
      rw [mt_and, test_ok (bin_ok (x := .int v) (y := .int 0) (z := .bl (decide (0 ≤ v))) rfl rfl rfl), bind_ok']
      rcases hv with rfl | ⟨p, rfl, hp⟩
      · rfl
      · have lt : (l.take p).length ≤ 48 := by rw [List.length_take]; omega
        have ld : (l.drop p).length ≤ 48 := by rw [List.length_drop]; omega
        rw [if_pos (decide_eq_true (by omega)), nt_y (b := true) ?_]
        · rfl
        · rw [call_ok (ma1 (addS (addS (slA (l := l) (a := p) rfl rfl (by omega)) (y := [32]) rfl (by show _ + 1 ≤ _; omega)) (slB (l := l) (a := p) rfl rfl (by omega)) (by rw [List.length_append]; show _ + 1 + _ ≤ _; omega)))]
          exact gap_at hp (by omega) ha O
    rw [ms_seq, if_no t3, ms_nil, seqF_nx, ms_ret, bin_ok (wo F (some (.int v))) (y := .lst ((w :: r).map D.str)) rfl (eq_ws hwa)]
    rfl
def B_l1 : MS := (msSeq (msSet 2 (mCall c_law_text (maCons (mVar 1) maNil)))
    (msSeq (msIf (mtNot (mTru (mCall c_law_truth (maCons (mCall c_is_figures (maCons (mVar 2) maNil)) (maCons (mCall c_law_due (maCons (mVar 2) maNil)) maNil))))) (msRet (mC (.bl false))) msNil)
    (msIf (mtNot (mTru (mCall c_law_row_right (maCons (mCall c_law_words (maCons (mVar 1) maNil)) (maCons (mVar 1) maNil))))) (msRet (mC (.bl false))) msNil)))
theorem not_no {m : L2.M D} {s : MS} {ρ : DEnv} {O : Store} (h : m ρ O = .ok (.bl true) O) : msIf (mtNot (mTru m)) s msNil ρ O = .nx ρ O := by
  rw [if_no (nt_y h), ms_nil]
theorem l1_turn (X : Option D) (c : Int) (a2 : Option D) (O : Store) : ∃ b2, B_l1 [X, some (.int c), a2, none] O = .nx [X, some (.int c), b2, none] O := by
  obtain ⟨t, ta, tl, et⟩ := e_text c O
  obtain ⟨ws, hl, hw, ew⟩ := e_words c O
  refine ⟨some (.str t), ?_⟩
  unfold B_l1
  rw [ms_seq, set_ok (d := .str t) (by rw [call_ok (ma1 (x := .int c) rfl), et]), seqF_nx]
  show msSeq _ _ [X, some (.int c), some (.str t), none] O = _
  have v1 : mCall c_is_figures (maCons (mVar 2) maNil) [X, some (.int c), some (.str t), none] O = .ok (.bl (fig t)) O := by rw [call_ok (ma1 (x := .str t) rfl), e_fig t ta tl]
  have v2 : mCall c_law_due (maCons (mVar 2) maNil) [X, some (.int c), some (.str t), none] O = .ok (.bl (fig t)) O := by rw [call_ok (ma1 (x := .str t) rfl), e_due t ta tl]
  have v3 : mCall c_law_words (maCons (mVar 1) maNil) [X, some (.int c), some (.str t), none] O = .ok (.lst (ws.map D.str)) O := by rw [call_ok (ma1 (x := .int c) rfl), ew]
  rw [ms_seq, not_no (by rw [call_ok (maS v1 (ma1 v2)), e_truth, decide_eq_true rfl]), seqF_nx, not_no (by rw [call_ok (maS v3 (ma1 (x := .int c) rfl)), e_row ws hl hw])]
theorem l1_loop (X : Option D) (O : Store) : ∀ (cs : List Int) (a1 a2 : Option D), ∃ b1 b2, floop (mgN 1) B_l1 (cs.map D.int) [X, a1, a2, none] O = .nx [X, b1, b2, none] O
  | [], a1, a2 => ⟨a1, a2, rfl⟩
  | c :: cs, a1, a2 => by
    obtain ⟨b2, e⟩ := l1_turn X c a2 O
    obtain ⟨d1, d2, e2⟩ := l1_loop X O cs (some (.int c)) b2
    refine ⟨d1, d2, ?_⟩
    rw [List.map_cons, floop, show mgN 1 (D.int c) [X, a1, a2, none] = some [X, some (.int c), a2, none] from rfl]
    dsimp only
    rw [e]
    exact e2
def B_l2 : MS := msIf (mtOr (mtNot (mTru (mCall c_law_truth (maCons (mCall c_is_figures (maCons (mVar 3) maNil)) (maCons (mC (.bl false)) maNil))))) (mtNot (mTru (mCall c_law_refused (maCons (mVar 3) maNil))))) (msRet (mC (.bl false))) msNil
theorem l2_turn {d : D} {t : String} (ht : tyD d = some t) (hd : ∀ O, deref O d = d) (hs : isTy t "str" = false) (X a1 a2 : Option D) (O : Store) : B_l2 [X, a1, a2, some d] O = .nx [X, a1, a2, some d] O := by
  have v1 : mCall c_is_figures (maCons (mVar 3) maNil) [X, a1, a2, some d] O = .ok (.bl false) O := by rw [call_ok (ma1 (x := d) rfl), fig_non ht hd hs]
  unfold B_l2
  rw [if_no, ms_nil]
  rw [mt_or, nt_y (b := true) (by rw [call_ok (maS v1 (ma1 (x := .bl false) rfl)), e_truth, decide_eq_true rfl]), bind_ok', Bool.not_true, if_neg Bool.false_ne_true, nt_y (b := true) (by rw [call_ok (ma1 (x := d) rfl), refused_ex (wo_non ht hd hs O)])]
  rfl
theorem l2_step {d : D} {t : String} (ht : tyD d = some t) (hd : ∀ O, deref O d = d) (hs : isTy t "str" = false) (X a1 a2 a3 : Option D) (ds : List D) (O : Store) : floop (mgN 3) B_l2 (d :: ds) [X, a1, a2, a3] O = floop (mgN 3) B_l2 ds [X, a1, a2, some d] O := by
  rw [floop, show mgN 3 d [X, a1, a2, a3] = some [X, a1, a2, some d] from rfl]
  dsimp only
  rw [l2_turn ht hd hs]
theorem l2_loop (X a1 a2 : Option D) (O : Store) : ∃ b, floop (mgN 3) B_l2 [.non, .int 5, .int 0, .bl true, .lst [.str [53]], .tup [.str [53]], .dic [] [], .lst []] [X, a1, a2, none] O = .nx [X, a1, a2, b] O := by
  rw [l2_step rfl (fun _ => rfl) (by decide), l2_step rfl (fun _ => rfl) (by decide), l2_step rfl (fun _ => rfl) (by decide), l2_step rfl (fun _ => rfl) (by decide), l2_step rfl (fun _ => rfl) (by decide), l2_step rfl (fun _ => rfl) (by decide), l2_step rfl (fun _ => rfl) (by decide), l2_step rfl (fun _ => rfl) (by decide)]
  exact ⟨_, rfl⟩
def B_l3 : MS := msIf (mTest (mBin (gIs true) (mCall c_is_figures (maCons (mVar 2) maNil)) (mC (.bl true)))) (msRet (mC (.bl false))) msNil
theorem l3_step {t : List Nat} (ta : asc t) (tl : t.length ≤ 1000) (hf : fig t = true) (X a1 a2 a3 : Option D) (ds : List D) (O : Store) : floop (mgN 2) B_l3 (.str t :: ds) [X, a1, a2, a3] O = floop (mgN 2) B_l3 ds [X, a1, some (.str t), a3] O := by
  have v1 : mCall c_is_figures (maCons (mVar 2) maNil) [X, a1, some (.str t), a3] O = .ok (.bl true) O := by rw [call_ok (ma1 (x := .str t) rfl), e_fig t ta tl, hf]
  rw [floop, show mgN 2 (D.str t) [X, a1, a2, a3] = some [X, a1, some (.str t), a3] from rfl]
  dsimp only
  have e : B_l3 [X, a1, some (.str t), a3] O = .nx [X, a1, some (.str t), a3] O := by
    unfold B_l3
    rw [if_no (test_ok (bin_ok v1 (y := .bl true) rfl rfl)), ms_nil]
  rw [e]
theorem l3_loop (X a1 a2 a3 : Option D) (O : Store) : ∃ b, floop (mgN 2) B_l3 [.str [48], .str [57, 57, 57, 57, 57, 57], .str [49]] [X, a1, a2, a3] O = .nx [X, a1, b, a3] O := by
  rw [l3_step (by unfold asc; decide) (by decide) (by decide), l3_step (by unfold asc; decide) (by decide) (by decide), l3_step (by unfold asc; decide) (by decide) (by decide)]
  exact ⟨_, rfl⟩
theorem law_true (ns : List Int) (hn : ns.length ≤ 63) : ∃ O', c_law [.lst (ns.map D.int)] [] = .ok (.bl true) O' := by
  obtain ⟨X, hX⟩ : ∃ X, X = some (D.lst (ns.map D.int)) := ⟨_, rfl⟩
  have ei : mIter (mBin gAdd (mSl (mVar 0) moN (moS (mC (.int 60)))) (mLst (maCons (mC (.int 0)) maNil))) [X, none, none, none] [] = .ok ((ns.take 60 ++ [0]).map D.int) [] := by
    have e1 : mSl (mVar 0) moN (moS (mC (.int 60))) [X, none, none, none] [] = .ok (.lst ((ns.map D.int).take 60)) [] := by
      rw [hX, m_sl, show mVar 0 [some (D.lst (ns.map D.int)), none, none, none] ([] : Store) = .ok (.lst (ns.map D.int)) [] from rfl, bind_ok', mo_n, bind_ok', mo_s, m_c, bind_ok', osF_i, bind_ok', deref_lst, gSl_lst, show (60 : Int) = ((60 : Nat) : Int) from rfl, cut_0n, ofO_some]
    have e2 : mBin gAdd (mSl (mVar 0) moN (moS (mC (.int 60)))) (mLst (maCons (mC (.int 0)) maNil)) [X, none, none, none] [] = .ok (.lst ((ns.map D.int).take 60 ++ [.int 0])) [] := bin_ok e1 (y := .lst [.int 0]) rfl (by
      rw [deref_lst, deref_lst, gAdd_l, if_pos (by rw [List.length_take, List.length_map]; show _ + 1 ≤ _; omega)])
    rw [m_iter, e2, bind_ok', iterD_lst, itF_some, List.map_append, List.map_take]
    rfl
  obtain ⟨b1, b2, l1⟩ := l1_loop X [] (ns.take 60 ++ [0]) none none
  obtain ⟨b3, l2⟩ := l2_loop X b1 b2 []
  obtain ⟨b4, l3⟩ := l3_loop X b1 b2 b3 []
  have r1 : ∀ ρ, mCall c_law_refused (maCons (mC (.str [])) maNil) ρ [] = .ok (.bl true) [] := fun ρ => by
    rw [call_ok (ma1 (x := .str []) rfl), refused_ex (wo_ex [] (by decide) (fun c hc => nomatch hc) (List.mem_singleton.mpr rfl) [])]
  have r2 : ∀ ρ, mCall c_law_refused (maCons (mC (.str [32])) maNil) ρ [] = .ok (.bl true) [] := fun ρ => by
    rw [call_ok (ma1 (x := .str [32]) rfl), refused_ex (wo_ex [32] (by decide) (asc_1 (by decide)) (by decide) [])]
  have r3 : ∀ ρ, mBin gEq (mCall c_words_of (maCons (mC (.str [97])) maNil)) (mLst (maCons (mC (.str [97])) maNil)) ρ [] = .ok (.bl true) [] := fun ρ =>
    bin_ok (x := .lst ([[97]].map D.str)) (y := .lst ([[97]].map D.str)) (by rw [call_ok (ma1 (x := .str [97]) rfl), wo_ok [97] (by decide) (asc_1 (by decide)) (by decide) []]; rfl) rfl (eq_ws (fun w hw => by rw [List.mem_singleton.mp hw]; exact asc_1 (by decide)))
  refine ⟨[], ?_⟩
  show funF (b_law [some (.lst (ns.map D.int)), none, none, none] []) = _
  rw [← hX]
  unfold b_law
  rw [ms_seq]
  show funF (seqF (msFor _ (mgN 1) B_l1 _ _) _) = _
  rw [ms_for, ei, forF_ok, l1, seqF_nx, ms_seq]
  show funF (seqF (msFor _ (mgN 3) B_l2 _ _) _) = _
  rw [ms_for, show mIter (mLst (maCons (mC .non) (maCons (mC (.int 5)) (maCons (mC (.int 0)) (maCons (mC (.bl true)) (maCons (mLst (maCons (mC (.str [53])) maNil)) (maCons (mTup (maCons (mC (.str [53])) maNil)) (maCons (mC (.dic [] [])) (maCons (mLst maNil) maNil))))))))) [X, b1, b2, none] [] = .ok [.non, .int 5, .int 0, .bl true, .lst [.str [53]], .tup [.str [53]], .dic [] [], .lst []] [] from rfl, forF_ok, l2, seqF_nx, ms_seq]
  show funF (seqF (msFor _ (mgN 2) B_l3 _ _) _) = _
  rw [ms_for, show mIter (mLst (maCons (mC (.str [48])) (maCons (mC (.str [57, 57, 57, 57, 57, 57])) (maCons (mC (.str [49])) maNil)))) [X, b1, b2, b3] [] = .ok [.str [48], .str [57, 57, 57, 57, 57, 57], .str [49]] [] from rfl, forF_ok, l3, seqF_nx, ms_ret, m_andV, r1, bind_ok', anF_b, if_pos rfl, m_andV, r2, bind_ok', anF_b, if_pos rfl, r3]
  rfl
theorem all_mk {l : PySem.W.OpenLaw} {w : World} {K : PySem.W.Frag} {h : Heap} {mg : Str → Option Value} {fa : Addr} (X : K.In h) (G : h.Ns mainGlobals mg) (hfa : mg "law" = some (.ref fa))
    {f_is_figures : Addr} {od_is_figures an_is_figures : Option Addr} {sl_is_figures : Array (Option Value)} {oc_is_figures kV_is_figures dc_is_figures pm_is_figures cd_is_figures ct_is_figures : Value}
    {f_words_of : Addr} {od_words_of an_words_of : Option Addr} {sl_words_of : Array (Option Value)} {oc_words_of kV_words_of dc_words_of pm_words_of cd_words_of ct_words_of : Value}
    {f_law_mix : Addr} {od_law_mix an_law_mix : Option Addr} {sl_law_mix : Array (Option Value)} {oc_law_mix kV_law_mix dc_law_mix pm_law_mix cd_law_mix ct_law_mix : Value}
    {f_law_signs : Addr} {od_law_signs an_law_signs : Option Addr} {sl_law_signs : Array (Option Value)} {oc_law_signs kV_law_signs dc_law_signs pm_law_signs cd_law_signs ct_law_signs : Value}
    {f_law_truth : Addr} {od_law_truth an_law_truth : Option Addr} {sl_law_truth : Array (Option Value)} {oc_law_truth kV_law_truth dc_law_truth pm_law_truth cd_law_truth ct_law_truth : Value}
    {f_law_due : Addr} {od_law_due an_law_due : Option Addr} {sl_law_due : Array (Option Value)} {oc_law_due kV_law_due dc_law_due pm_law_due cd_law_due ct_law_due : Value}
    {f_law_text : Addr} {od_law_text an_law_text : Option Addr} {sl_law_text : Array (Option Value)} {oc_law_text kV_law_text dc_law_text pm_law_text cd_law_text ct_law_text : Value}
    {f_law_words : Addr} {od_law_words an_law_words : Option Addr} {sl_law_words : Array (Option Value)} {oc_law_words kV_law_words dc_law_words pm_law_words cd_law_words ct_law_words : Value}
    {f_law_refused : Addr} {od_law_refused an_law_refused : Option Addr} {sl_law_refused : Array (Option Value)} {oc_law_refused kV_law_refused dc_law_refused pm_law_refused cd_law_refused ct_law_refused : Value}
    {f_law_row_right : Addr} {od_law_row_right an_law_row_right : Option Addr} {sl_law_row_right : Array (Option Value)} {oc_law_row_right kV_law_row_right dc_law_row_right pm_law_row_right cd_law_row_right ct_law_row_right : Value}
    {f_law : Addr} {od_law an_law : Option Addr} {sl_law : Array (Option Value)} {oc_law kV_law dc_law pm_law cd_law ct_law : Value}
    {A_OutError : Addr}
    {A_NoRow : Addr}
    {A_NoName : Addr}
    {A_NoHand : Addr}
    {A_Twice : Addr}
    {A_Closed : Addr}
    {A_NoRoll : Addr}
    {A_NoCell : Addr}
    {A_NoRoom : Addr}
    {A_NoSign : Addr}
    {A_NoSize : Addr}
    {cdX : ClassData}
    {u_MOST_FIGURES : Value}
    (a_is_figures : PySem.W.nsIn K mainGlobals "is_figures" = some (some (.ref f_is_figures)))
    (l_is_figures : K.lookup f_is_figures = some ⟨oc_is_figures, od_is_figures, .func (PySem.W.fnOf "is_figures" "is_figures" (defArgs s_is_figures) (defBody s_is_figures) (defScope s_is_figures) .none kV_is_figures dc_is_figures pm_is_figures an_is_figures cd_is_figures ct_is_figures), sl_is_figures⟩) (cc_is_figures : PySem.W.codeIn K cd_is_figures "is_figures" = true) (k_is_figures : PySem.W.keepIn K (.ref f_is_figures) = true)
    (a_words_of : PySem.W.nsIn K mainGlobals "words_of" = some (some (.ref f_words_of)))
    (l_words_of : K.lookup f_words_of = some ⟨oc_words_of, od_words_of, .func (PySem.W.fnOf "words_of" "words_of" (defArgs s_words_of) (defBody s_words_of) (defScope s_words_of) .none kV_words_of dc_words_of pm_words_of an_words_of cd_words_of ct_words_of), sl_words_of⟩) (cc_words_of : PySem.W.codeIn K cd_words_of "words_of" = true) (k_words_of : PySem.W.keepIn K (.ref f_words_of) = true)
    (a_law_mix : PySem.W.nsIn K mainGlobals "_law_mix" = some (some (.ref f_law_mix)))
    (l_law_mix : K.lookup f_law_mix = some ⟨oc_law_mix, od_law_mix, .func (PySem.W.fnOf "_law_mix" "_law_mix" (defArgs s_law_mix) (defBody s_law_mix) (defScope s_law_mix) .none kV_law_mix dc_law_mix pm_law_mix an_law_mix cd_law_mix ct_law_mix), sl_law_mix⟩) (cc_law_mix : PySem.W.codeIn K cd_law_mix "_law_mix" = true) (k_law_mix : PySem.W.keepIn K (.ref f_law_mix) = true)
    (a_law_signs : PySem.W.nsIn K mainGlobals "_law_signs" = some (some (.ref f_law_signs)))
    (l_law_signs : K.lookup f_law_signs = some ⟨oc_law_signs, od_law_signs, .func (PySem.W.fnOf "_law_signs" "_law_signs" (defArgs s_law_signs) (defBody s_law_signs) (defScope s_law_signs) .none kV_law_signs dc_law_signs pm_law_signs an_law_signs cd_law_signs ct_law_signs), sl_law_signs⟩) (cc_law_signs : PySem.W.codeIn K cd_law_signs "_law_signs" = true) (k_law_signs : PySem.W.keepIn K (.ref f_law_signs) = true)
    (a_law_truth : PySem.W.nsIn K mainGlobals "_law_truth" = some (some (.ref f_law_truth)))
    (l_law_truth : K.lookup f_law_truth = some ⟨oc_law_truth, od_law_truth, .func (PySem.W.fnOf "_law_truth" "_law_truth" (defArgs s_law_truth) (defBody s_law_truth) (defScope s_law_truth) .none kV_law_truth dc_law_truth pm_law_truth an_law_truth cd_law_truth ct_law_truth), sl_law_truth⟩) (cc_law_truth : PySem.W.codeIn K cd_law_truth "_law_truth" = true) (k_law_truth : PySem.W.keepIn K (.ref f_law_truth) = true)
    (a_law_due : PySem.W.nsIn K mainGlobals "_law_due" = some (some (.ref f_law_due)))
    (l_law_due : K.lookup f_law_due = some ⟨oc_law_due, od_law_due, .func (PySem.W.fnOf "_law_due" "_law_due" (defArgs s_law_due) (defBody s_law_due) (defScope s_law_due) .none kV_law_due dc_law_due pm_law_due an_law_due cd_law_due ct_law_due), sl_law_due⟩) (cc_law_due : PySem.W.codeIn K cd_law_due "_law_due" = true) (k_law_due : PySem.W.keepIn K (.ref f_law_due) = true)
    (a_law_text : PySem.W.nsIn K mainGlobals "_law_text" = some (some (.ref f_law_text)))
    (l_law_text : K.lookup f_law_text = some ⟨oc_law_text, od_law_text, .func (PySem.W.fnOf "_law_text" "_law_text" (defArgs s_law_text) (defBody s_law_text) (defScope s_law_text) .none kV_law_text dc_law_text pm_law_text an_law_text cd_law_text ct_law_text), sl_law_text⟩) (cc_law_text : PySem.W.codeIn K cd_law_text "_law_text" = true) (k_law_text : PySem.W.keepIn K (.ref f_law_text) = true)
    (a_law_words : PySem.W.nsIn K mainGlobals "_law_words" = some (some (.ref f_law_words)))
    (l_law_words : K.lookup f_law_words = some ⟨oc_law_words, od_law_words, .func (PySem.W.fnOf "_law_words" "_law_words" (defArgs s_law_words) (defBody s_law_words) (defScope s_law_words) .none kV_law_words dc_law_words pm_law_words an_law_words cd_law_words ct_law_words), sl_law_words⟩) (cc_law_words : PySem.W.codeIn K cd_law_words "_law_words" = true) (k_law_words : PySem.W.keepIn K (.ref f_law_words) = true)
    (a_law_refused : PySem.W.nsIn K mainGlobals "_law_refused" = some (some (.ref f_law_refused)))
    (l_law_refused : K.lookup f_law_refused = some ⟨oc_law_refused, od_law_refused, .func (PySem.W.fnOf "_law_refused" "_law_refused" (defArgs s_law_refused) (defBody s_law_refused) (defScope s_law_refused) .none kV_law_refused dc_law_refused pm_law_refused an_law_refused cd_law_refused ct_law_refused), sl_law_refused⟩) (cc_law_refused : PySem.W.codeIn K cd_law_refused "_law_refused" = true) (k_law_refused : PySem.W.keepIn K (.ref f_law_refused) = true)
    (a_law_row_right : PySem.W.nsIn K mainGlobals "_law_row_right" = some (some (.ref f_law_row_right)))
    (l_law_row_right : K.lookup f_law_row_right = some ⟨oc_law_row_right, od_law_row_right, .func (PySem.W.fnOf "_law_row_right" "_law_row_right" (defArgs s_law_row_right) (defBody s_law_row_right) (defScope s_law_row_right) .none kV_law_row_right dc_law_row_right pm_law_row_right an_law_row_right cd_law_row_right ct_law_row_right), sl_law_row_right⟩) (cc_law_row_right : PySem.W.codeIn K cd_law_row_right "_law_row_right" = true) (k_law_row_right : PySem.W.keepIn K (.ref f_law_row_right) = true)
    (a_law : PySem.W.nsIn K mainGlobals "law" = some (some (.ref f_law)))
    (l_law : K.lookup f_law = some ⟨oc_law, od_law, .func (PySem.W.fnOf "law" "law" (defArgs s_law) (defBody s_law) (defScope s_law) .none kV_law dc_law pm_law an_law cd_law ct_law), sl_law⟩) (cc_law : PySem.W.codeIn K cd_law "law" = true) (k_law : PySem.W.keepIn K (.ref f_law) = true)
    (z_len : PySem.W.nsIn K mainGlobals "len" = some none)
    (z_isinstance : PySem.W.nsIn K mainGlobals "isinstance" = some none)
    (z_all : PySem.W.nsIn K mainGlobals "all" = some none)
    (z_sum : PySem.W.nsIn K mainGlobals "sum" = some none)
    (z_max : PySem.W.nsIn K mainGlobals "max" = some none)
    (z_min : PySem.W.nsIn K mainGlobals "min" = some none)
    (z_int : PySem.W.nsIn K mainGlobals "int" = some none)
    (z_str : PySem.W.nsIn K mainGlobals "str" = some none)
    (z_bool : PySem.W.nsIn K mainGlobals "bool" = some none)
    (z_list : PySem.W.nsIn K mainGlobals "list" = some none)
    (z_tuple : PySem.W.nsIn K mainGlobals "tuple" = some none)
    (z_dict : PySem.W.nsIn K mainGlobals "dict" = some none)
    (z_range : PySem.W.nsIn K mainGlobals "range" = some none)
    (z_enumerate : PySem.W.nsIn K mainGlobals "enumerate" = some none)
    (z_zip : PySem.W.nsIn K mainGlobals "zip" = some none)
    (a_c_MOST_FIGURES : PySem.W.nsIn K mainGlobals "MOST_FIGURES" = some (some u_MOST_FIGURES)) (r_MOST_FIGURES : RelV (.int 6) u_MOST_FIGURES)
    (aC_OutError : PySem.W.nsIn K mainGlobals "OutError" = some (some (.ref A_OutError)))
    (aC_NoRow : PySem.W.nsIn K mainGlobals "NoRow" = some (some (.ref A_NoRow)))
    (aC_NoName : PySem.W.nsIn K mainGlobals "NoName" = some (some (.ref A_NoName)))
    (aC_NoHand : PySem.W.nsIn K mainGlobals "NoHand" = some (some (.ref A_NoHand)))
    (aC_Twice : PySem.W.nsIn K mainGlobals "Twice" = some (some (.ref A_Twice)))
    (aC_Closed : PySem.W.nsIn K mainGlobals "Closed" = some (some (.ref A_Closed)))
    (aC_NoRoll : PySem.W.nsIn K mainGlobals "NoRoll" = some (some (.ref A_NoRoll)))
    (aC_NoCell : PySem.W.nsIn K mainGlobals "NoCell" = some (some (.ref A_NoCell)))
    (aC_NoRoom : PySem.W.nsIn K mainGlobals "NoRoom" = some (some (.ref A_NoRoom)))
    (aC_NoSign : PySem.W.nsIn K mainGlobals "NoSign" = some (some (.ref A_NoSign)))
    (aC_NoSize : PySem.W.nsIn K mainGlobals "NoSize" = some (some (.ref A_NoSize)))
    (xN : PySem.W.excIn K A_NoRow bmV "ValueError.__new__" = true)
    (xT : PySem.W.exmOne K (.ref A_NoRow) (.ref A_OutError) = some true)
    (xga : PySem.W.findIn K (.ref A_NoRow) "__getattribute__" = some (some (.builtin "BaseException.__getattribute__")))
    (xna : PySem.W.findIn K (.ref A_NoRow) "__getattr__" = some none)
    (xca : PySem.W.findIn K (.ref A_NoRow) "__class__" = some (some (.builtin "object.__class__")))
    (xsp : PySem.W.specialIn K (.builtin "object.__class__") "__get__" = some (some (.builtin "getset_descriptor.__get__")))
    (xtk : PySem.W.takesIn K (.builtin "object.__class__") = some true)
    (xob : PySem.W.mroIn K A_NoRow (.type "object") = some true)
    (xbe : PySem.W.mroIn K A_NoRow (.type "BaseException") = some true)
    (xcl : PySem.W.clsIn K A_NoRow = some cdX)
    (xka : PySem.W.kitAny K (.ref A_NoRow) [.ref A_NoName, .ref A_NoHand, .ref A_Twice, .ref A_Closed, .ref A_NoRoll, .ref A_NoCell, .ref A_NoRoom, .ref A_NoSign, .ref A_NoSize] = some false)
    (xk1 : PySem.W.kitOne K (.ref A_NoRow) (.ref A_NoRow) = some true)
    (xk2 : PySem.W.kitOne K (.ref A_NoRow) (.type "ValueError") = some true)
    (xve : PySem.W.nsIn K mainGlobals "ValueError" = some none) :
    ∃ fd : FuncData, (∀ (s : Shared) (v : Value), BindsTo s fd ⟨[v], []⟩ [("_law_script", v)]) ∧ ∀ base : Heap, K.In base → base.Ns mainGlobals mg → FnOk l.prog w K mg base CX0 4 fa fd ["_law_script"] (sp_law K) := by
  have e := hfa.symm.trans (PySem.W.mg_of X G a_law)
  cases e
  have D_is_figures : Def K mg "is_figures" s_is_figures := ⟨_, _, PySem.W.mg_of X G a_is_figures, fun_mk (st := s_is_figures) l_is_figures cc_is_figures k_is_figures⟩
  have D_words_of : Def K mg "words_of" s_words_of := ⟨_, _, PySem.W.mg_of X G a_words_of, fun_mk (st := s_words_of) l_words_of cc_words_of k_words_of⟩
  have D_law_mix : Def K mg "_law_mix" s_law_mix := ⟨_, _, PySem.W.mg_of X G a_law_mix, fun_mk (st := s_law_mix) l_law_mix cc_law_mix k_law_mix⟩
  have D_law_signs : Def K mg "_law_signs" s_law_signs := ⟨_, _, PySem.W.mg_of X G a_law_signs, fun_mk (st := s_law_signs) l_law_signs cc_law_signs k_law_signs⟩
  have D_law_truth : Def K mg "_law_truth" s_law_truth := ⟨_, _, PySem.W.mg_of X G a_law_truth, fun_mk (st := s_law_truth) l_law_truth cc_law_truth k_law_truth⟩
  have D_law_due : Def K mg "_law_due" s_law_due := ⟨_, _, PySem.W.mg_of X G a_law_due, fun_mk (st := s_law_due) l_law_due cc_law_due k_law_due⟩
  have D_law_text : Def K mg "_law_text" s_law_text := ⟨_, _, PySem.W.mg_of X G a_law_text, fun_mk (st := s_law_text) l_law_text cc_law_text k_law_text⟩
  have D_law_words : Def K mg "_law_words" s_law_words := ⟨_, _, PySem.W.mg_of X G a_law_words, fun_mk (st := s_law_words) l_law_words cc_law_words k_law_words⟩
  have D_law_refused : Def K mg "_law_refused" s_law_refused := ⟨_, _, PySem.W.mg_of X G a_law_refused, fun_mk (st := s_law_refused) l_law_refused cc_law_refused k_law_refused⟩
  have D_law_row_right : Def K mg "_law_row_right" s_law_row_right := ⟨_, _, PySem.W.mg_of X G a_law_row_right, fun_mk (st := s_law_row_right) l_law_row_right cc_law_row_right k_law_row_right⟩
  have D_law : Def K mg "law" s_law := ⟨_, _, PySem.W.mg_of X G a_law, fun_mk (st := s_law) l_law cc_law k_law⟩
  have B : Blt mg := ⟨PySem.W.mg_none_of X G z_len, PySem.W.mg_none_of X G z_isinstance, PySem.W.mg_none_of X G z_all, PySem.W.mg_none_of X G z_sum, PySem.W.mg_none_of X G z_max, PySem.W.mg_none_of X G z_min, PySem.W.mg_none_of X G z_int, PySem.W.mg_none_of X G z_str, PySem.W.mg_none_of X G z_bool, PySem.W.mg_none_of X G z_list, PySem.W.mg_none_of X G z_tuple, PySem.W.mg_none_of X G z_dict, PySem.W.mg_none_of X G z_range, PySem.W.mg_none_of X G z_enumerate, PySem.W.mg_none_of X G z_zip⟩
  have c_MOST_FIGURES : ∃ u, mg "MOST_FIGURES" = some u ∧ RelV (.int 6) u := ⟨_, PySem.W.mg_of X G a_c_MOST_FIGURES, r_MOST_FIGURES⟩
  have X_NoRow : ExcC K mg "NoRow" := ⟨_, PySem.W.mg_of X G aC_NoRow, xN⟩
  have RF : Refus K mg "OutError" "NoRow" ["NoName", "NoHand", "Twice", "Closed", "NoRoll", "NoCell", "NoRoom", "NoSign", "NoSize"] := ⟨A_OutError, A_NoRow, [A_NoName, A_NoHand, A_Twice, A_Closed, A_NoRoll, A_NoCell, A_NoRoom, A_NoSign, A_NoSize], PySem.W.mg_of X G aC_OutError, PySem.W.mg_of X G aC_NoRow, xT, ⟨xga, xna, xca, xsp, xtk, xob, xbe, by rw [xcl]; rfl⟩, ⟨_, _, rfl, PySem.W.mg_of X G aC_NoName, ⟨_, _, rfl, PySem.W.mg_of X G aC_NoHand, ⟨_, _, rfl, PySem.W.mg_of X G aC_Twice, ⟨_, _, rfl, PySem.W.mg_of X G aC_Closed, ⟨_, _, rfl, PySem.W.mg_of X G aC_NoRoll, ⟨_, _, rfl, PySem.W.mg_of X G aC_NoCell, ⟨_, _, rfl, PySem.W.mg_of X G aC_NoRoom, ⟨_, _, rfl, PySem.W.mg_of X G aC_NoSign, ⟨_, _, rfl, PySem.W.mg_of X G aC_NoSize, rfl⟩⟩⟩⟩⟩⟩⟩⟩⟩, xka, xk1, xk2, PySem.W.mg_none_of X G xve⟩
  refine ⟨PySem.W.fnOf "law" "law" (defArgs s_law) (defBody s_law) (defScope s_law) .none kV_law dc_law pm_law an_law cd_law ct_law, fun s v => .of_eq rfl, fun base _ _ => ?_⟩
  have C_is_figures : Can l.prog w K mg base "is_figures" ["thing"] 1 (vSp K mg [.s] (rV K) c_is_figures) := (ok_is_figures D_is_figures B c_MOST_FIGURES)
  have C_words_of : CanX l.prog w K mg base "words_of" ["row"] 1 (vSpX K mg [.s] (rO K) c_words_of) := (ok_words_of D_words_of B X_NoRow)
  have C_law_mix : Can l.prog w K mg base "_law_mix" ["_law_cell", "_law_k"] 1 (vSp K mg [.s, .s] (rV K) c_law_mix) := (ok_law_mix D_law_mix B )
  have C_law_signs : Can l.prog w K mg base "_law_signs" [] 1 (vSp K mg [] (rV K) c_law_signs) := (ok_law_signs D_law_signs B )
  have C_law_truth : Can l.prog w K mg base "_law_truth" ["_law_found", "_law_due_here"] 1 (vSp K mg [.s, .s] (rV K) c_law_truth) := (ok_law_truth D_law_truth B )
  have C_law_due : Can l.prog w K mg base "_law_due" ["_law_text_here"] 1 (vSp K mg [.s] (rV K) c_law_due) := (ok_law_due D_law_due B )
  have C_law_text : Can l.prog w K mg base "_law_text" ["_law_cell"] 2 (vSp K mg [.s] (rV K) c_law_text) := (ok_law_text D_law_text B C_law_mix C_law_signs)
  have C_law_words : Can l.prog w K mg base "_law_words" ["_law_cell"] 2 (vSp K mg [.s] (rO K) c_law_words) := (ok_law_words D_law_words B C_law_mix C_law_signs)
  have C_law_refused : Can l.prog w K mg base "_law_refused" ["_law_thing"] 2 (vSp K mg [.s] (rV K) c_law_refused) := (ok_law_refused D_law_refused B RF C_words_of)
  have C_law_row_right : Can l.prog w K mg base "_law_row_right" ["_law_words_here", "_law_cell"] 3 (vSp K mg [.s, .s] (rV K) c_law_row_right) := (ok_law_row_right D_law_row_right B C_law_refused C_words_of.can C_law_mix)
  have C_law : Can l.prog w K mg base "law" ["_law_script"] 4 (vSp K mg [.s] (rV K) c_law) := (ok_law D_law B C_law_text C_law_truth C_is_figures C_law_due C_law_row_right C_law_words C_law_refused C_words_of.can)
  obtain ⟨f', fd', hm', hk', hb', F', oc', od', osl', lk'⟩ := C_law
  have e2 := (PySem.W.mg_of X G a_law).symm.trans hm'
  cases e2
  have e3 := l_law.symm.trans lk'
  cases e3
  exact F'.imp (law_spV law_true)
theorem walk {l : PySem.W.OpenLaw} {q : Program} {loose : List Str} {XP : (Str → Option Value) → Heap → Prop} {YP : World → Heap → Prop} {d : DefRec} {K : Params → PySem.W.Frag} (hn : l.most = some 63) (hdf : d.params.defaults = [])
    (hY : ∀ (w : World) (h : Heap), YP w h → (K w.params).In h)
    (F : ∀ (w : World) (mg : Str → Option Value) (fa : Addr) (h : Heap), (K w.params).In h → h.Ns mainGlobals mg → mg d.name = some (.ref fa) →
      ∃ fd : FuncData, (∀ (s : Shared) (u : Value), BindsTo s fd ⟨[u], []⟩ [("_law_script", u)]) ∧ ∀ base : Heap, (K w.params).In base → base.Ns mainGlobals mg → FnOk l.prog w (K w.params) mg base CX0 4 fa fd ["_law_script"] (sp_law (K w.params))) :
    PySem.W.WalkO q loose XP YP l.row.toRowW d [] (fun f vs => PySem.call f vs) :=
  L2.walk_ofR (n := 63) (k := 4) (x := "_law_script") (CX := fun _ => CX0) (sp := fun w => sp_law (K w.params)) hn (by decide) hdf ⟨rfl, by decide, by decide⟩ hY F (fun _ _ a ns hl ho hS => ⟨a, ns, rfl, hS, hl, ho, fun _ => rfl⟩) fun _ _ _ _ _ z => z
end K90
open PySem PySem.W PyProof.Rows
set_option maxRecDepth 100000 in
set_option maxHeartbeats 0 in
theorem PySem.Challenge.cw_outweave_k90_words_and_figures_holds : PySem.Challenge.rw_outweave_k90_words_and_figures.Holds := by
  w_on; o_law; k_head; (case hw => w_witness2)
  k_fill
  refine K90.walk (l := PySem.Challenge.rw_outweave_k90_words_and_figures) rfl rfl (fun w h Y => PySem.W.kIn_of Y) ?F
  case F =>
    intro w mg fa h KX G hmg
    refine' K90.all_mk KX G hmg ?a_is_figures ?l_is_figures ?cc_is_figures ?k_is_figures ?a_words_of ?l_words_of ?cc_words_of ?k_words_of ?a_law_mix ?l_law_mix ?cc_law_mix ?k_law_mix ?a_law_signs ?l_law_signs ?cc_law_signs ?k_law_signs ?a_law_truth ?l_law_truth ?cc_law_truth ?k_law_truth ?a_law_due ?l_law_due ?cc_law_due ?k_law_due ?a_law_text ?l_law_text ?cc_law_text ?k_law_text ?a_law_words ?l_law_words ?cc_law_words ?k_law_words ?a_law_refused ?l_law_refused ?cc_law_refused ?k_law_refused ?a_law_row_right ?l_law_row_right ?cc_law_row_right ?k_law_row_right ?a_law ?l_law ?cc_law ?k_law ?z_len ?z_isinstance ?z_all ?z_sum ?z_max ?z_min ?z_int ?z_str ?z_bool ?z_list ?z_tuple ?z_dict ?z_range ?z_enumerate ?z_zip ?a_c_MOST_FIGURES ?r_MOST_FIGURES ?aC_OutError ?aC_NoRow ?aC_NoName ?aC_NoHand ?aC_Twice ?aC_Closed ?aC_NoRoll ?aC_NoCell ?aC_NoRoom ?aC_NoSign ?aC_NoSize ?xN ?xT ?xga ?xna ?xca ?xsp ?xtk ?xob ?xbe ?xcl ?xka ?xk1 ?xk2 ?xve
    (case a_is_figures => k_is)
    (case l_is_figures => k_is)
    (case cc_is_figures => k_is)
    (case k_is_figures => k_is)
    (case a_words_of => k_is)
    (case l_words_of => k_is)
    (case cc_words_of => k_is)
    (case k_words_of => k_is)
    (case a_law_mix => k_is)
    (case l_law_mix => k_is)
    (case cc_law_mix => k_is)
    (case k_law_mix => k_is)
    (case a_law_signs => k_is)
    (case l_law_signs => k_is)
    (case cc_law_signs => k_is)
    (case k_law_signs => k_is)
    (case a_law_truth => k_is)
    (case l_law_truth => k_is)
    (case cc_law_truth => k_is)
    (case k_law_truth => k_is)
    (case a_law_due => k_is)
    (case l_law_due => k_is)
    (case cc_law_due => k_is)
    (case k_law_due => k_is)
    (case a_law_text => k_is)
    (case l_law_text => k_is)
    (case cc_law_text => k_is)
    (case k_law_text => k_is)
    (case a_law_words => k_is)
    (case l_law_words => k_is)
    (case cc_law_words => k_is)
    (case k_law_words => k_is)
    (case a_law_refused => k_is)
    (case l_law_refused => k_is)
    (case cc_law_refused => k_is)
    (case k_law_refused => k_is)
    (case a_law_row_right => k_is)
    (case l_law_row_right => k_is)
    (case cc_law_row_right => k_is)
    (case k_law_row_right => k_is)
    (case a_law => k_is)
    (case l_law => k_is)
    (case cc_law => k_is)
    (case k_law => k_is)
    (case z_len => k_is)
    (case z_isinstance => k_is)
    (case z_all => k_is)
    (case z_sum => k_is)
    (case z_max => k_is)
    (case z_min => k_is)
    (case z_int => k_is)
    (case z_str => k_is)
    (case z_bool => k_is)
    (case z_list => k_is)
    (case z_tuple => k_is)
    (case z_dict => k_is)
    (case z_range => k_is)
    (case z_enumerate => k_is)
    (case z_zip => k_is)
    (case a_c_MOST_FIGURES => k_is)
    (case r_MOST_FIGURES => exact ⟨_, rfl⟩)
    (case aC_OutError => k_is)
    (case aC_NoRow => k_is)
    (case aC_NoName => k_is)
    (case aC_NoHand => k_is)
    (case aC_Twice => k_is)
    (case aC_Closed => k_is)
    (case aC_NoRoll => k_is)
    (case aC_NoCell => k_is)
    (case aC_NoRoom => k_is)
    (case aC_NoSign => k_is)
    (case aC_NoSize => k_is)
    (case xN => k_exc)
    (case xT => kts_exm)
    (case xga => k_is)
    (case xna => k_is)
    (case xca => k_is)
    (case xsp => k_is)
    (case xtk => k_is)
    (case xob => k_is)
    (case xbe => k_is)
    (case xcl => k_is)
    (case xka => kit_is)
    (case xk1 => kit_is)
    (case xk2 => kit_is)
    (case xve => k_is)
