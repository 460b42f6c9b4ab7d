import PyProof.Rows.All
import Wide.All
import OpenK.AllK
import Wide.FinOn
import Lean
import PyProof.EqAt
import PyProof.EqKinds
import PyProof.TupleCall
import PySem.Challenge.RW_outweave_k37_shade_as_trail
set_option Elab.async false
set_option linter.all false
set_option maxRecDepth 100000
set_option maxHeartbeats 4000000
namespace L2
open PySem PySem.Spec PyProof.Rows
abbrev Key := Sum Int Str
def keyIs : Key → Value → Bool
  | .inl k, v => Value.isInt k v
  | .inr x, v => Value.isStrOf x v
def keyH (w : World) : Key → Int
  | .inl k => hashInt k
  | .inr x => hashStr w x
theorem keyIs_shape : ∀ {k : Key} {v : Value}, keyIs k v = true → (∃ i t, k = Sum.inl i ∧ v = Value.int i t) ∨ (∃ x t, k = Sum.inr x ∧ v = Value.str x t)
  | .inl i, v, h => by
    obtain ⟨t, e⟩ := Value.isInt_shape (k := i) (v := v) h
    exact .inl ⟨i, t, rfl, e⟩
  | .inr x, v, h => by
    obtain ⟨t, e⟩ := Value.isStrOf_shape (x := x) (v := v) h
    exact .inr ⟨x, t, rfl, e⟩
theorem key_ll (a b : Int) : decide ((Sum.inl a : Key) = Sum.inl b) = (a == b) := by
  by_cases e : a = b
  · subst e; simp
  · have h : ¬ (Sum.inl a : Key) = Sum.inl b := fun q => e (Sum.inl.inj q)
    rw [decide_eq_false h]
    exact (beq_eq_false_iff_ne.mpr e).symm
theorem key_rr (a b : Str) : decide ((Sum.inr a : Key) = Sum.inr b) = decide (a = b) := by
  by_cases e : a = b
  · subst e; simp
  · have h : ¬ (Sum.inr a : Key) = Sum.inr b := fun q => e (Sum.inr.inj q)
    rw [decide_eq_false h, decide_eq_false e]
theorem key_lr (a : Int) (b : Str) : decide ((Sum.inl a : Key) = Sum.inr b) = false := decide_eq_false (fun q => nomatch q)
theorem key_rl (a : Str) (b : Int) : decide ((Sum.inr a : Key) = Sum.inl b) = false := decide_eq_false (fun q => nomatch q)
def mixKind (prog : Program) (w : World) : PySem.KeyKind prog w Key where
  is := keyIs
  hash := keyH w
  inj := fun v a b ha hb => by
    rcases keyIs_shape ha with ⟨i, t, rfl, rfl⟩ | ⟨x, t, rfl, rfl⟩
    · rcases keyIs_shape hb with ⟨j, u, rfl, e⟩ | ⟨y, u, rfl, e⟩
      · injection e with e1 _; rw [e1]
      · exact nomatch e
    · rcases keyIs_shape hb with ⟨j, u, rfl, e⟩ | ⟨y, u, rfl, e⟩
      · exact nomatch e
      · injection e with e1 _; rw [e1]
  byValue := fun k v h => by
    rcases keyIs_shape h with ⟨i, t, rfl, rfl⟩ | ⟨x, t, rfl, rfl⟩ <;> rfl
  pyHash := fun hv h => by
    rcases keyIs_shape hv with ⟨i, t, rfl, rfl⟩ | ⟨x, t, rfl, rfl⟩
    · exact wpAny_pyHash_int h
    · exact wpAny_pyHash_str h
  eqBool := fun hu hv h => by
    rcases keyIs_shape hu with ⟨i, t, rfl, rfl⟩ | ⟨x, t, rfl, rfl⟩
    · rcases keyIs_shape hv with ⟨j, u, rfl, rfl⟩ | ⟨y, u, rfl, rfl⟩
      · rw [key_ll] at h; exact wpAny_eqBool_int h
      · rw [key_lr] at h; exact SeqAt.EqAt.int_str i t y u _ _ _ _ h
    · rcases keyIs_shape hv with ⟨j, u, rfl, rfl⟩ | ⟨y, u, rfl, rfl⟩
      · rw [key_rl] at h; exact SeqAt.EqAt.str_int x t j u _ _ _ _ h
      · rw [key_rr] at h; exact wpAny_eqBool_str h
  «strs» := fun k x t v h => by
    rcases keyIs_shape h with ⟨i, u, rfl, e⟩ | ⟨y, u, rfl, e⟩
    · exact nomatch e
    · injection e with e1 _
      subst e1
      cases v <;> rfl
end L2
namespace L2
open PySem PySem.Spec PyProof.Rows
inductive V where
  | non | bl (b : Bool) | int (i : Int) | str (x : Str) | byt (b : Array UInt8) | flt (b : UInt64) | ref (a : Addr) | ty (n : String)
  deriving DecidableEq
def RelV : V → Value → Prop
  | .non, u => u = Value.none
  | .bl b, u => u = Value.bool b
  | .int i, u => ∃ t, u = Value.int i t
  | .str x, u => ∃ t, u = Value.str x t
  | .byt b, u => ∃ t, u = Value.bytes b t
  | .flt b, u => ∃ t, u = Value.float b t
  | .ref a, u => u = Value.ref a
  | .ty n, u => u = Value.type n
abbrev Vals : List V → List Value → Prop := Paired RelV
theorem Vals.length {xs : List V} {us : List Value} (r : Vals xs us) : xs.length = us.length := Paired.length r
theorem Vals.get : ∀ {xs : List V} {us : List Value} {i : Nat} {x : V}, Vals xs us → xs[i]? = some x → ∃ u, us[i]? = some u ∧ RelV x u
  | _, _, _, _, .nil, e => by simp at e
  | _, _, 0, _, .cons r _, e => by simp at e; subst e; exact ⟨_, rfl, r⟩
  | _, _, i + 1, x, .cons _ t, e => by
    obtain ⟨u, h1, h2⟩ := Vals.get (i := i) (x := x) t (by simpa using e)
    exact ⟨u, by simpa using h1, h2⟩
theorem Vals.append : ∀ {xs ys : List V} {us ws : List Value}, Vals xs us → Vals ys ws → Vals (xs ++ ys) (us ++ ws)
  | _, _, _, _, .nil, s => s
  | _, _, _, _, .cons r t, s => .cons r (Vals.append t s)
theorem Vals.take : ∀ {xs : List V} {us : List Value} (n : Nat), Vals xs us → Vals (xs.take n) (us.take n)
  | _, _, 0, _ => .nil
  | _, _, _ + 1, .nil => .nil
  | _, _, n + 1, .cons r t => .cons r (Vals.take n t)
theorem Vals.drop : ∀ {xs : List V} {us : List Value} (n : Nat), Vals xs us → Vals (xs.drop n) (us.drop n)
  | _, _, 0, r => r
  | _, _, _ + 1, .nil => .nil
  | _, _, n + 1, .cons _ t => Vals.drop n t
theorem Vals.none_of : ∀ {xs : List V} {us : List Value} {i : Nat}, Vals xs us → xs[i]? = none → us[i]? = none := fun {xs us i} r e => by
  have h1 := r.length
  have h2 : xs.length ≤ i := List.getElem?_eq_none_iff.mp e
  exact List.getElem?_eq_none_iff.mpr (by omega)
def RelO : Option V → Option Value → Prop
  | some v, some u => RelV v u
  | none, none => True
  | _, _ => False
def KV {κ : Type} : List (κ × V) → List (κ × Value) → Prop := Paired fun (p : κ × V) (q : κ × Value) => p.1 = q.1 ∧ RelV p.2 q.2
def kV : Key → V
  | .inl i => .int i
  | .inr x => .str x
inductive HO where
    | lst (xs : List V)
    | tup (xs : List V)
    | dK (kvs : List (Key × V)) | dT (kvs : List (List Key × V))
    | set (S : Int → Bool) (n : Nat)
    | ins (C dx : Addr) (fs : List (Str × V))
    | own (x : Addr)
    | xd (fs : List (Str × V))
    | met (f x : Addr)
    | rng (lo hi : Int)
    | frz (o : Obj) (u : HO)
    | tbl (ps : Array Value)
    | ext (φ : Heap → Prop)
abbrev Hp := Addr → Option HO
def upd (H : Hp) (a : Addr) (o : HO) : Hp := fun b => if b = a then some o else H b
theorem upd_same {H : Hp} {a : Addr} {o : HO} : upd H a o a = some o := by unfold upd; rw [if_pos rfl]
theorem upd_ne {H : Hp} {a b : Addr} {o : HO} (h : b ≠ a) : upd H a o b = H b := by unfold upd; rw [if_neg h]
theorem ne_of_none {H : Hp} {a b : Addr} {o : HO} (h : H a = some o) (h' : H b = none) : a ≠ b := by
  intro e; subst e; rw [h] at h'; cases h'
section
variable (P : Program) (w : World)
def ObjOk (H : Hp) (h : Heap) (a : Addr) : HO → Prop
  | .lst xs => xs.length ≤ sizeLine ∧ ∃ (its : List Value) (n : Nat), Vals xs its ∧ h.get? a = some { cls := .type "list", data := .seq its.toArray n }
  | .tup xs => xs.length ≤ sizeLine ∧ ∃ its : List Value, Vals xs its ∧ IsTup h a its.toArray
  | .dK kvs => kvs.length ≤ sizeLine ∧ (a == sysModules) = false ∧ ∃ vs, KV kvs vs ∧ h.DictOf (mixKind P w) a vs
  | .dT kvs => kvs.length ≤ sizeLine ∧ (a == sysModules) = false ∧ ∃ xs : List (List Key × Addr × Value),
      Paired (fun (p : List Key × V) (q : List Key × Addr × Value) => p.1 = q.1 ∧ H q.2.1 = some (.tup (p.1.map kV)) ∧ RelV p.2 q.2.2) kvs xs ∧
      ∃ o es ep, h.get? a = some o ∧ o.ExactDict ∧ o.data = .dict es ep ∧ es.toList = xs.map (entryOfKey (tupleKind (mixKind P w))) ∧ (xs.map (·.1)).Nodup
  | .set S n => h.SetOf (intKind P w) a S n
  | .ins C dx fs => H dx = some (.own a) ∧ fs.length ≤ 1000 ∧ dx ≠ a ∧ h.get? a = some (PySem.W.instObj C dx) ∧
      ∃ mA, h.Ns1 dx mA ∧ (∀ f, RelO (fs.lookup f) (mA f)) ∧ PySem.Within mA (fs.map (·.1))
  | .own _ => ∃ o, h.get? a = some o
  | .xd fs => ∃ mA, h.Ns1 a mA ∧ ∀ f, RelO (fs.lookup f) (mA f)
  | .rng lo hi => ∃ t u v, h.get? a = some { cls := .type "range", data := .fields #[.int lo t, .int hi u, .int 1 v] }
  | .frz o u => h.get? a = some o ∧ ObjOk H h a u
  | .tbl ps => h.get? a = some { cls := .none, data := .fields ps }
  | .met f x => h.get? a = some (PySem.W.methodObj (.ref f) (.ref x))
  | .ext φ => φ h ∧ (∃ o, h.get? a = some o) ∧ ∀ h1 h2 : Heap, φ h1 → (∀ o, h1.get? a = some o → h2.get? a = some o) → φ h2
def HOk (H : Hp) (h : Heap) : Prop := ∀ a o, H a = some o → ObjOk P w H h a o
end
section
variable {P : Program} {w : World} {H H' : Hp} {h h' : Heap} {a : Addr} {o : HO}
theorem ObjOk.lt (x : ObjOk P w H h a o) : a < h.objs.size := by
  cases o with
  | lst xs => obtain ⟨_, _, _, _, e⟩ := x; exact Heap.lt_size e
  | tup xs => obtain ⟨_, _, _, p⟩ := x; exact p.lt
  | dK kvs => obtain ⟨_, _, _, _, o, _, _, e, _⟩ := x; exact Heap.lt_size e
  | dT kvs => obtain ⟨_, _, _, _, o, _, _, e, _⟩ := x; exact Heap.lt_size e
  | set S n => obtain ⟨o, _, _, _, e, _⟩ := x; exact Heap.lt_size e
  | ins C dx fs => obtain ⟨_, _, _, e, _⟩ := x; exact Heap.lt_size e
  | own y => obtain ⟨_, e⟩ := x; exact Heap.lt_size e
  | xd fs => obtain ⟨_, ⟨_, _, _, e, _⟩, _⟩ := x; exact Heap.lt_size e
  | rng lo hi => obtain ⟨_, _, _, e⟩ := x; exact Heap.lt_size e
  | frz ob u => obtain ⟨e, _⟩ := x; exact Heap.lt_size e
  | tbl ps => exact Heap.lt_size (show h.get? a = some _ from x)
  | met f y => exact Heap.lt_size (show h.get? a = some _ from x)
  | ext φ => obtain ⟨_, ⟨_, e⟩, _⟩ := x; exact Heap.lt_size e
theorem Paired.mapP {α β : Type} {F G : α → β → Prop} : ∀ {l₁ : List α} {l₂ : List β}, Paired F l₁ l₂ → (∀ a b, F a b → G a b) → Paired G l₁ l₂
  | _, _, .nil, _ => .nil
  | _, _, .cons r t, f => .cons (f _ _ r) (Paired.mapP t f)
theorem ObjOk.stay (x : ObjOk P w H h a o) (k : ∀ b u, (b = a ∨ H b = some (.own a)) → h.get? b = some u → h'.get? b = some u)
    (ho : ∀ b, H b = some (.own a) → H' b = some (.own a)) (ht : ∀ b xs, H b = some (.tup xs) → H' b = some (.tup xs)) : ObjOk P w H' h' a o := by
  induction o with
  | lst xs => obtain ⟨z, its, n, r, e⟩ := x; exact ⟨z, its, n, r, k _ _ (.inl rfl) e⟩
  | tup xs => obtain ⟨z, its, r, ob, e, c⟩ := x; exact ⟨z, its, r, ob, k _ _ (.inl rfl) e, c⟩
  | dK kvs => obtain ⟨z, y, vs, r, ob, es, ep, e, c⟩ := x; exact ⟨z, y, vs, r, ob, es, ep, k _ _ (.inl rfl) e, c⟩
  | dT kvs =>
    obtain ⟨z, y, xs, r, ob, es, ep, e, c⟩ := x
    exact ⟨z, y, xs, Paired.mapP r fun p q z => ⟨z.1, ht _ _ z.2.1, z.2.2⟩, ob, es, ep, k _ _ (.inl rfl) e, c⟩
  | set S n => obtain ⟨ob, es, ep, t, e, c⟩ := x; exact ⟨ob, es, ep, t, k _ _ (.inl rfl) e, c⟩
  | ins C dx fs =>
    obtain ⟨d, z, ne, e, mA, ⟨od, es, ep, e2, c⟩, r⟩ := x
    exact ⟨ho _ d, z, ne, k _ _ (.inl rfl) e, mA, ⟨od, es, ep, k _ _ (.inr d) e2, c⟩, r⟩
  | own y => obtain ⟨ob, e⟩ := x; exact ⟨ob, k _ _ (.inl rfl) e⟩
  | xd fs => obtain ⟨mA, ⟨od, es, ep, e, c⟩, r⟩ := x; exact ⟨mA, ⟨od, es, ep, k _ _ (.inl rfl) e, c⟩, r⟩
  | rng lo hi => obtain ⟨t, u, v, e⟩ := x; exact ⟨t, u, v, k _ _ (.inl rfl) e⟩
  | frz ob u ih => obtain ⟨e, q⟩ := x; exact ⟨k _ _ (.inl rfl) e, ih q⟩
  | tbl ps =>
    have e : h.get? a = some { cls := .none, data := .fields ps } := x
    show h'.get? a = some { cls := .none, data := .fields ps }
    exact k a _ (.inl rfl) e
  | met f y =>
    have e : h.get? a = some (PySem.W.methodObj (.ref f) (.ref y)) := x
    show h'.get? a = some (PySem.W.methodObj (.ref f) (.ref y))
    exact k a _ (.inl rfl) e
  | ext φ => obtain ⟨p, ⟨o, e⟩, st⟩ := x; exact ⟨st _ _ p fun o q => k _ _ (.inl rfl) q, ⟨o, k _ _ (.inl rfl) e⟩, st⟩
theorem HOk.lt (x : HOk P w H h) (e : H a = some o) : a < h.objs.size := (x a o e).lt
theorem HOk.fresh (x : HOk P w H h) (e : h.objs.size ≤ a) : H a = none := by
  cases q : H a with
  | none => rfl
  | some u => exact absurd (Nat.lt_of_lt_of_le (x.lt q) e) (Nat.lt_irrefl _)
theorem HOk.kept (x : HOk P w H h) (k : ∀ b u, h.get? b = some u → h'.get? b = some u) : HOk P w H h' := fun a o e =>
  (x a o e).stay (fun b u _ q => k b u q) (fun _ q => q) fun _ _ q => q
theorem HOk.laid (x : HOk P w H h) (k : ∀ b u, h.get? b = some u → h'.get? b = some u) (hp : h.objs.size ≤ a) (new : ObjOk P w (upd H a o) h' a o) : HOk P w (upd H a o) h' := fun b u e => by
  have hn := x.fresh hp
  by_cases hb : b = a
  · subst hb; rw [upd_same] at e; cases e; exact new
  · rw [upd_ne hb] at e
    exact (x b u e).stay (fun c v _ q => k c v q) (fun c q => by rw [upd_ne (ne_of_none q hn)]; exact q) fun c xs q => by rw [upd_ne (ne_of_none q hn)]; exact q
end
def Rd (H : Hp) (a : Addr) (u : HO) : Prop := H a = some u ∨ ∃ o, H a = some (.frz o u)
theorem Rd.ok {P : Program} {w : World} {H : Hp} {h : Heap} {a : Addr} {u : HO} (r : Rd H a u) (x : HOk P w H h) : ObjOk P w H h a u := by
  rcases r with r | ⟨o, r⟩
  · exact x a u r
  · obtain ⟨_, q⟩ := x a _ r
    exact q
def Mut : Option HO → Prop
  | some (.lst _) => True
  | some (.dK _) => True
  | some (.dT _) => True
  | some (.set _ _) => True
  | some (.ins _ _ _) => True
  | some (.ext _) => True
  | _ => False
section
variable {P : Program} {w : World} {H : Hp} {h h' : Heap} {x e : Addr} {o' : HO}
theorem HOk.write (ok : HOk P w H h) (mu : Mut (H x)) (he : e = x ∨ H e = some (.own x)) (k : ∀ b u, b ≠ e → h.get? b = some u → h'.get? b = some u) (heo : ∃ u, h'.get? e = some u)
    (new : ObjOk P w (upd H x o') h' x o') : HOk P w (upd H x o') h' := fun b u q => by
  have nown : ∀ c y, H c = some (.own y) → c ≠ x := fun c y r z => by subst z; rw [r] at mu; exact mu
  have ntup : ∀ c xs, H c = some (.tup xs) → c ≠ x := fun c xs r z => by subst z; rw [r] at mu; exact mu
  by_cases hb : b = x
  · subst hb; rw [upd_same] at q; cases q; exact new
  · rw [upd_ne hb] at q
    by_cases hbe : b = e
    · have q' : H b = some (.own x) := by
        rcases he with z | z
        · exact absurd (hbe.trans z) hb
        · rw [hbe]; exact z
      rw [q] at q'; cases q'
      obtain ⟨v, hv⟩ := heo
      exact ⟨v, by rw [hbe]; exact hv⟩
    · refine (ok b u q).stay (fun c v hc r => k c v ?_ r) (fun c r => by rw [upd_ne (nown c b r)]; exact r) fun c xs r => by rw [upd_ne (ntup c xs r)]; exact r
      rcases hc with rfl | hc
      · exact hbe
      · rintro rfl
        rcases he with z | z
        · exact nown c b hc z
        · rw [hc] at z; cases z; exact hb rfl
end
structure Un (fs ex : List Addr) (H H' : Hp) (h h' : Heap) : Prop where
  keep : ∀ b o, h.get? b = some o → H b = none → b ∉ fs → b ∉ ex → h'.get? b = some o
  slot : ∀ b o, h.get? b = some o → H b = none → b ∈ fs → b ∉ ex → ∃ sl, h'.get? b = some { o with slots := sl }
  free : ∀ b o, h.get? b = some o → H b = none → b ∉ ex → H' b = none
  there : ∀ b o, h.get? b = some o → b ∉ ex → ∃ o', h'.get? b = some o'
  tups : ∀ b xs, H b = some (.tup xs) → H' b = some (.tup xs)
  frzs : ∀ b o u, H b = some (.frz o u) → H' b = some (.frz o u)
  tbls : ∀ b ps, H b = some (.tbl ps) → ∃ more, H' b = some (.tbl (ps ++ more))
section
variable {fs fs' ex ex' : List Addr} {H H1 H2 : Hp} {h h1 h2 h' : Heap} {a x e : Addr} {o : HO}
theorem Un.any (u : Un fs ex H H1 h h1) {b : Addr} {ob : Obj} (q : h.get? b = some ob) (n : H b = none) (hx : b ∉ ex) : ∃ sl, h1.get? b = some { ob with slots := sl } := by
  by_cases hb : b ∈ fs
  · exact u.slot b ob q n hb hx
  · exact ⟨ob.slots, u.keep b ob q n hb hx⟩
theorem Un.kept (k : ∀ b u, h.get? b = some u → h'.get? b = some u) : Un fs ex H H h h' :=
  ⟨fun b ob q _ _ _ => k b ob q, fun b ob q _ _ _ => ⟨ob.slots, k b ob q⟩, fun _ _ _ n _ => n, fun b ob q _ => ⟨ob, k b ob q⟩, fun _ _ q => q, fun _ _ _ q => q, fun _ ps q => ⟨#[], by rw [q]; simp⟩⟩
theorem Un.refl : Un fs ex H H h h := Un.kept fun _ _ q => q
theorem Un.laid (k : ∀ b u, h.get? b = some u → h'.get? b = some u) (hp : h.objs.size ≤ a) (hn : H a = none) : Un fs ex H (upd H a o) h h' where
  keep := fun b u q _ _ _ => k b u q
  slot := fun b u q _ _ _ => ⟨u.slots, k b u q⟩
  free := fun b u q n _ => by rw [upd_ne (Nat.ne_of_lt (Nat.lt_of_lt_of_le (Heap.lt_size q) hp))]; exact n
  there := fun b u q _ => ⟨u, k b u q⟩
  tups := fun b xs q => by rw [upd_ne (ne_of_none q hn)]; exact q
  frzs := fun b u xs q => by rw [upd_ne (ne_of_none q hn)]; exact q
  tbls := fun b ps q => ⟨#[], by rw [upd_ne (ne_of_none q hn), q]; simp⟩
theorem Un.write (mu : Mut (H x)) (he : e = x ∨ H e = some (.own x)) (k : ∀ b u, b ≠ e → h.get? b = some u → h'.get? b = some u) (heo : ∃ u, h'.get? e = some u) : Un fs ex H (upd H x o) h h' := by
  have hx : ∀ b, H b = none → b ≠ x := fun b n z => by subst z; rw [n] at mu; exact mu
  have hb : ∀ b, H b = none → b ≠ e := fun b n z => by
    subst z
    rcases he with r | r
    · exact hx b n r
    · rw [n] at r; cases r
  have hm : ∀ b u, H b = some u → ¬ Mut (some u) → b ≠ x := fun b u q nm z => by subst z; rw [q] at mu; exact nm mu
  refine ⟨fun b u q n _ _ => k b u (hb b n) q, fun b u q n _ _ => ⟨u.slots, k b u (hb b n) q⟩, fun b u q n _ => by rw [upd_ne (hx b n)]; exact n, fun b u q _ => ?_,
    fun b xs q => by rw [upd_ne (hm b _ q fun z => z)]; exact q, fun b u xs q => by rw [upd_ne (hm b _ q fun z => z)]; exact q, fun b ps q => ⟨#[], by rw [upd_ne (hm b _ q fun z => z), q]; simp⟩⟩
  by_cases hbe : b = e
  · subst hbe; exact heo
  · exact ⟨u, k b u hbe q⟩
end
def trk (h : Heap) (H : Hp) : List Addr := (List.range h.objs.size).filter fun a => (H a).isSome
def hidT (h : Heap) (H : Hp) : Heap := PySem.W.hideAll h (trk h H)
theorem hidT_size (h : Heap) (H : Hp) : (hidT h H).objs.size = h.objs.size := PySem.W.hideAll_size _ _
theorem hidT_get {h : Heap} {H : Hp} {b : Addr} {o : Obj} (e : h.get? b = some o) (n : H b = none) : (hidT h H).get? b = some o :=
  PySem.W.hideAll_get _ e fun hm => by
    have q : (H b).isSome = true := (List.mem_filter.mp hm).2
    rw [n] at q; simp at q
theorem of_hidT {h : Heap} {H : Hp} {b : Addr} {o : Obj} (e : (hidT h H).get? b = some o) : h.get? b = some o ∧ H b = none := by
  have e' : h.get? b = some o := PySem.W.of_hideAll (trk h H) e
  refine ⟨e', ?_⟩
  cases q : H b with
  | none => rfl
  | some x =>
    have hm : b ∈ trk h H := List.mem_filter.mpr ⟨List.mem_range.mpr (Heap.lt_size e'), by simp [q]⟩
    have z : (hidT h H).get? b = none := PySem.W.hideAll_none (trk h H) hm
    rw [z] at e; cases e
def allNews (g h : Heap) (L : Addr) : List (Addr × Obj) := (List.range h.objs.size).filterMap fun a => if a = L ∨ (g.get? a).isSome = true then none else (h.get? a).map fun o => (a, o)
def rest (g h : Heap) (L d : Addr) : List (Addr × Obj) := (allNews g h L).filter fun p => decide (p.1 ≠ d)
end L2
namespace L2
open PySem PySem.Spec PyProof.Rows
structure Mod (K : PySem.W.Frag) (mg : Str → Option Value) (base : Heap) : Prop where
  kin : K.In base
  glob : base.Ns mainGlobals mg
  blt : ∃ mb, base.Ns builtinsNs mb ∧ ∀ x : Str, x ≠ "__name__" → mb x = bootBuiltins x
  nolimit : base.NoLimit
structure Cx where
  prog : Program
  w : World
  K : PySem.W.Frag
  mg : Str → Option Value
  base : Heap
  A : Around
  N : List Str
  s₀ : Shared
  H₀ : Hp
  env : Env
  outer : List Env
  stack : List Env
  ex : List Addr
  fn : Str → Bool
  calm : Bool
  pn : List (Addr × Obj)
  xe : Value → Shared → Prop
def frs (l : List Env) : List Addr := l.filterMap (·.frame)
abbrev Cx.fs (X : Cx) : List Addr := frs X.outer
def Vis (sc : Scope) (x : Str) : Prop := sc.names.lookup x = some .local ∨ sc.names.lookup x = some .cell ∨ sc.names.lookup x = some .free
def Loc (sc : Scope) (x : Str) : Prop := sc.names.lookup x = some .local ∨ sc.names.lookup x = some .cell
def Look (env : Env) (h : Heap) (m : Str → Option Value) (x : Str) (u : Value) : Prop :=
  (env.kindOf x = some .local ∧ m x = some u) ∨ ((env.kindOf x = some .cell ∨ env.kindOf x = some .free) ∧ ∃ c, env.cells.lookup x = some c ∧ h.IsCell c (some u))
structure Cx.Ok (X : Cx) : Prop where
  mod : Mod X.K X.mg X.base
  kind : X.env.scope.kind = .function
  glob : X.env.globals = mainGlobals
  blt : X.env.builtins = builtinsNs
  above : X.s₀.heap.objs.size ≤ X.env.locals
  inj : ∀ x y c, X.env.cells.lookup x = some c → X.env.cells.lookup y = some c → x = y
  has : ∀ x, (X.env.kindOf x = some .cell ∨ X.env.kindOf x = some .free) → ∃ c, X.env.cells.lookup x = some c
  cab : ∀ x c, X.fn x = true → X.env.cells.lookup x = some c → X.s₀.heap.objs.size ≤ c
  hd : X.calm = true → X.A.handled = none
  frames : X.A.frames = some X.stack
  stk : X.stack = X.outer ∨ (X.stack = X.env :: X.outer ∧ X.env.frame = some X.env.locals)
  exf : ∀ b ∈ X.ex, b ≠ X.env.locals ∧ ∀ x c, X.env.cells.lookup x = some c → c ≠ b
  bs : ∀ b o, X.base.get? b = some o → X.s₀.heap.get? b = some o ∧ X.H₀ b = none
  bsz : X.base.objs.size ≤ X.s₀.heap.objs.size
  noex : ∀ b o, X.base.get? b = some o → b ∉ X.ex
  exfs : ∀ b ∈ X.ex, b ∉ X.fs
  funs : X.s₀.heap.FunFrames X.base X.outer
  frf : ∀ b ∈ X.fs, X.H₀ b = none
structure Inv (X : Cx) (pins : List (Addr × Obj)) (σ : List (Option V)) (H : Hp) (s : Shared) : Prop where
  ok : X.Ok
  os : s.os = X.s₀.os
  bare : AllBare s.gens
  base : Un X.fs X.ex X.H₀ H X.s₀.heap s.heap
  loc : ∃ m, s.heap.Ns X.env.locals m ∧ ∀ (i : Nat) (x : Str) (v : V), X.N[i]? = some x → σ[i]? = some (some v) → Vis X.env.scope x → ∃ u, RelV v u ∧ Look X.env s.heap m x u
  cell : ∀ x c, X.env.cells.lookup x = some c → ∃ v, s.heap.IsCell c v
  free : H X.env.locals = none
  freeC : ∀ x c, X.env.cells.lookup x = some c → H c = none
  pin : ∀ p ∈ X.pn ++ pins, s.heap.get? p.1 = some p.2 ∧ H p.1 = none ∧ p.1 ≠ X.env.locals ∧ p.1 ∉ X.fs ∧ ∀ v, p.2.data ≠ .cell v
  hok : HOk X.prog X.w H s.heap
  len : σ.length = X.N.length
section
variable {X : Cx} {pins : List (Addr × Obj)} {σ : List (Option V)} {H H' : Hp} {s : Shared} {h' : Heap}
theorem Cx.Ok.nofr (ok : X.Ok) {b : Addr} {o : Obj} (e : X.base.get? b = some o) : b ∉ X.fs := fun hb => by
  have := (ok.funs.mem hb).1
  rw [e] at this; cases this
theorem Inv.bs (I : Inv X pins σ H s) : ∀ b o, X.base.get? b = some o → s.heap.get? b = some o ∧ H b = none := fun b o e =>
  ⟨I.base.keep b o (I.ok.bs b o e).1 (I.ok.bs b o e).2 (I.ok.nofr e) (I.ok.noex b o e), I.base.free b o (I.ok.bs b o e).1 (I.ok.bs b o e).2 (I.ok.noex b o e)⟩
theorem Inv.bk (I : Inv X pins σ H s) : ∀ b o, X.base.get? b = some o → s.heap.get? b = some o := fun b o e => (I.bs b o e).1
theorem Inv.mod (I : Inv X pins σ H s) : Mod X.K X.mg X.base := I.ok.mod
theorem Inv.kIn (I : Inv X pins σ H s) : X.K.In s.heap := I.ok.mod.kin.keeps I.bk
theorem Inv.lt (I : Inv X pins σ H s) : X.env.locals < s.heap.objs.size := let ⟨_, hn, _⟩ := I.loc; hn.lt
theorem Inv.sz (I : Inv X pins σ H s) : X.s₀.heap.objs.size ≤ s.heap.objs.size := Nat.le_trans I.ok.above (Nat.le_of_lt I.lt)
theorem Inv.nofs (I : Inv X pins σ H s) {a : Addr} (h : s.heap.objs.size ≤ a) : a ∉ X.fs := fun hb => by
  obtain ⟨_, o, ho, _⟩ := I.ok.funs.mem hb
  exact absurd (Nat.lt_of_lt_of_le (Heap.lt_size ho) (Nat.le_trans I.sz h)) (Nat.lt_irrefl _)
theorem Inv.cne (I : Inv X pins σ H s) : ∀ x c, X.env.cells.lookup x = some c → c ≠ X.env.locals := fun x c e z => by
  obtain ⟨v, o, ho, hd⟩ := I.cell x c e
  obtain ⟨m, ⟨o', es, ep, ho', hd', _⟩, _⟩ := I.loc
  rw [z, ho'] at ho; cases ho; rw [hd'] at hd; cases hd
theorem Inv.funs (I : Inv X pins σ H s) : s.heap.FunFrames X.base X.outer := by
  have all : ∀ (l : List Env), (∀ b ∈ frs l, b ∈ X.fs) → X.s₀.heap.FunFrames X.base l → s.heap.FunFrames X.base l := by
    intro l
    induction l with
    | nil => intro _ _; trivial
    | cons env r ih =>
      intro hs hl
      obtain ⟨hk, ⟨L, o, hf, hn, ho, hd⟩, hr⟩ := hl
      have hL : L ∈ X.fs := hs L (by unfold frs; rw [List.filterMap_cons, hf]; exact List.mem_cons_self)
      obtain ⟨sl, e⟩ := I.base.slot L o ho (I.ok.frf L hL) hL fun z => I.ok.exfs L z hL
      exact ⟨hk, ⟨L, _, hf, hn, e, hd⟩, ih (fun b hb => hs b (by unfold frs; rw [List.filterMap_cons, hf]; exact List.mem_cons_of_mem _ hb)) hr⟩
  exact all X.outer (fun _ hb => hb) I.ok.funs
theorem Inv.stack (I : Inv X pins σ H s) : s.heap.FunFrames X.base X.stack := by
  rcases I.ok.stk with e | ⟨e, hf⟩
  · rw [e]; exact I.funs
  · rw [e]
    obtain ⟨m, hn, _⟩ := I.loc
    refine .cons (by rw [I.ok.kind]; decide) hf hn ?_ I.funs
    exact Heap.get?_none_of_le (Nat.le_trans I.ok.bsz I.ok.above)
theorem Inv.stkSub (I : Inv X pins σ H s) : ∀ b ∈ frs X.stack, b ∈ X.env.locals :: X.fs := fun b hb => by
  rcases I.ok.stk with e | ⟨e, hf⟩
  · rw [e] at hb; exact List.mem_cons_of_mem _ hb
  · rw [e] at hb
    unfold frs at hb
    rw [List.filterMap_cons, hf] at hb
    exact hb
theorem Inv.stkFree (I : Inv X pins σ H s) : ∀ b ∈ frs X.stack, H b = none := fun b hb => by
  rcases List.mem_cons.mp (I.stkSub b hb) with e | hb
  · rw [e]; exact I.free
  · obtain ⟨_, o, ho, _⟩ := I.ok.funs.mem hb
    exact I.base.free b o ho (I.ok.frf b hb) fun z => I.ok.exfs b z hb
theorem Inv.step {g' : Array GenState} {t' : Nat} {d' : Drawn} {ch : List Addr} (I : Inv X pins σ H s)
    (hch : ∀ b ∈ ch, (b ∈ X.ex ∨ X.s₀.heap.objs.size ≤ b) ∧ b ≠ X.env.locals ∧ (∀ x c, X.env.cells.lookup x = some c → c ≠ b) ∧ ∀ p ∈ X.pn ++ pins, p.1 ≠ b)
    (keep : ∀ b o, b ≠ X.env.locals → b ∉ X.fs → b ∉ ch → s.heap.get? b = some o → H b = none → h'.get? b = some o)
    (slot : ∀ b o, b ≠ X.env.locals → b ∈ X.fs → b ∉ ch → s.heap.get? b = some o → H b = none → ∃ sl, h'.get? b = some { o with slots := sl }) (free : ∀ b o, b ∉ ch → s.heap.get? b = some o → H b = none → H' b = none)
    (there : ∀ b o, b ∉ ch → s.heap.get? b = some o → ∃ o', h'.get? b = some o')
    (tups : ∀ b xs, H b = some (.tup xs) → H' b = some (.tup xs)) (frzs : ∀ b o u, H b = some (.frz o u) → H' b = some (.frz o u)) (tbls : ∀ b ps, H b = some (.tbl ps) → ∃ more, H' b = some (.tbl (ps ++ more)))
    (ns : ∀ m, s.heap.Ns X.env.locals m → h'.Ns X.env.locals m) (hok : HOk X.prog X.w H' h') (hg : AllBare g') :
    Inv X pins σ H' { s with heap := h', gens := g', drawn := d', toks := t' } := by
  have neL : ∀ b o, X.s₀.heap.get? b = some o → b ≠ X.env.locals := fun b o e => Nat.ne_of_lt (Nat.lt_of_lt_of_le (Heap.lt_size e) I.ok.above)
  have neC : ∀ b o, X.s₀.heap.get? b = some o → b ∉ X.ex → b ∉ ch := fun b o e hx hb => by
    rcases (hch b hb).1 with z | z
    · exact hx z
    · exact absurd (Nat.lt_of_lt_of_le (Heap.lt_size e) z) (Nat.lt_irrefl _)
  have cellK : ∀ x c, X.env.cells.lookup x = some c → ∀ v, s.heap.IsCell c v → h'.IsCell c v := fun x c e v ⟨o, ho, hd⟩ => by
    have nch : c ∉ ch := fun z => (hch c z).2.2.1 x c e rfl
    by_cases hc : c ∈ X.fs
    · obtain ⟨sl, q⟩ := slot c o (I.cne x c e) hc nch ho (I.freeC x c e)
      exact ⟨_, q, hd⟩
    · exact ⟨o, keep c o (I.cne x c e) hc nch ho (I.freeC x c e), hd⟩
  refine ⟨I.ok, I.os, hg, ⟨fun b o e n hb hx => ?_, fun b o e n hb hx => ?_, fun b o e n hx => ?_, fun b o e hx => ?_, fun b xs e => tups b xs (I.base.tups b xs e), fun b o xs e => frzs b o xs (I.base.frzs b o xs e), fun b ps e => ?_⟩, ?_, fun x c e => ?_, ?_, fun x c e => ?_, fun p hp => ?_, hok, I.len⟩
  · exact keep b o (neL b o e) hb (neC b o e hx) (I.base.keep b o e n hb hx) (I.base.free b o e n hx)
  · obtain ⟨sl, e1⟩ := I.base.slot b o e n hb hx
    obtain ⟨sl', e2⟩ := slot b _ (neL b o e) hb (neC b o e hx) e1 (I.base.free b o e n hx)
    exact ⟨sl', e2⟩
  · obtain ⟨o', e1⟩ := I.base.there b o e hx
    exact free b o' (neC b o e hx) e1 (I.base.free b o e n hx)
  · obtain ⟨o', e1⟩ := I.base.there b o e hx
    exact there b o' (neC b o e hx) e1
  · obtain ⟨m1, e1⟩ := I.base.tbls b ps e
    obtain ⟨m2, e2⟩ := tbls b _ e1
    exact ⟨m1 ++ m2, by rw [e2, Array.append_assoc]⟩
  · obtain ⟨m, hn, hl⟩ := I.loc
    refine ⟨m, ns m hn, fun i x v e1 e2 e3 => ?_⟩
    obtain ⟨u, r, l⟩ := hl i x v e1 e2 e3
    refine ⟨u, r, ?_⟩
    rcases l with l | ⟨k, c, e, z⟩
    · exact .inl l
    · exact .inr ⟨k, c, e, cellK x c e _ z⟩
  · obtain ⟨v, z⟩ := I.cell x c e
    exact ⟨v, cellK x c e v z⟩
  · obtain ⟨m, ⟨o, _, _, ho, _⟩, _⟩ := I.loc
    exact free _ o (fun z => (hch _ z).2.1 rfl) ho I.free
  · obtain ⟨v, o, ho, hd⟩ := I.cell x c e
    exact free c o (fun z => (hch c z).2.2.1 x c e rfl) ho (I.freeC x c e)
  · obtain ⟨e, n, ne, nf, d⟩ := I.pin p hp
    have nch : p.1 ∉ ch := fun z => (hch p.1 z).2.2.2 p hp rfl
    exact ⟨keep p.1 p.2 ne nf nch e n, free p.1 p.2 nch e n, ne, nf, d⟩
theorem Inv.un {t' : Nat} (I : Inv X pins σ H s) (u : Un X.fs [] H H' s.heap h') (hok : HOk X.prog X.w H' h') : Inv X pins σ H' { s with heap := h', toks := t' } := by
  obtain ⟨m, ⟨o, es, ep, ho, r⟩, _⟩ := id I.loc
  obtain ⟨sl, hL⟩ := u.any ho I.free (by simp)
  exact I.step (g' := s.gens) (d' := s.drawn) (ch := []) (fun _ z => nomatch z) (fun b o _ hb _ e n => u.keep b o e n hb (by simp)) (fun b o _ hb _ e n => u.slot b o e n hb (by simp)) (fun b o _ e n => u.free b o e n (by simp)) (fun b o _ e => u.there b o e (by simp)) u.tups u.frzs u.tbls (fun m' hm => by
    obtain ⟨o', es', ep', ho', r'⟩ := hm
    rw [ho] at ho'; cases ho'
    exact ⟨_, es', ep', hL, r'⟩) hok I.bare
theorem Inv.call {g' : Array GenState} {t' : Nat} {d' : Drawn} {ch : List Addr} (I : Inv X pins σ H s) (u : Un (frs X.stack) ch H H' s.heap h') (hok : HOk X.prog X.w H' h') (hg : AllBare g')
    (hch : ∀ b ∈ ch, (b ∈ X.ex ∨ X.s₀.heap.objs.size ≤ b) ∧ b ≠ X.env.locals ∧ (∀ x c, X.env.cells.lookup x = some c → c ≠ b) ∧ ∀ p ∈ X.pn ++ pins, p.1 ≠ b) :
    Inv X pins σ H' { s with heap := h', gens := g', drawn := d', toks := t' } := by
  obtain ⟨m, ⟨o, es, ep, ho, r⟩, _⟩ := id I.loc
  obtain ⟨sl, hL⟩ := u.any ho I.free fun z => (hch _ z).2.1 rfl
  exact I.step (ch := ch) hch (fun b o hL hb hc e n => u.keep b o e n (fun z => (List.mem_cons.mp (I.stkSub b z)).elim hL hb) hc) (fun b o _ _ hc e n => u.any e n hc) (fun b o hc e n => u.free b o e n hc) (fun b o hc e => u.there b o e hc) u.tups u.frzs u.tbls (fun m' hm => by
    obtain ⟨o', es', ep', ho', r'⟩ := hm
    rw [ho] at ho'; cases ho'
    exact ⟨_, es', ep', hL, r'⟩) hok hg
theorem Inv.turned {t' : Nat} {it : Addr} (I : Inv X pins σ H s) (k : ∀ b o, b ≠ it → s.heap.get? b = some o → h'.get? b = some o) (hn : H it = none) (hL : it ≠ X.env.locals)
    (h1 : it ∈ X.ex ∨ X.s₀.heap.objs.size ≤ it) (h2 : ∀ x c, X.env.cells.lookup x = some c → c ≠ it) (h3 : ∀ p ∈ X.pn ++ pins, p.1 ≠ it) : Inv X pins σ H { s with heap := h', toks := t' } := by
  have nit : ∀ b u, H b = some u → b ≠ it := fun b u e z => by rw [z, hn] at e; cases e
  refine I.step (g' := s.gens) (d' := s.drawn) (ch := [it]) (fun b hb => ?_) (fun b o _ _ hc e _ => k b o (fun z => hc (by simp [z])) e) (fun b o _ _ hc e _ => ⟨o.slots, k b o (fun z => hc (by simp [z])) e⟩) (fun _ _ _ _ n => n)
    (fun b o hc e => ⟨o, k b o (fun z => hc (by simp [z])) e⟩) (fun _ _ e => e) (fun _ _ _ e => e) (fun b ps e => ⟨#[], by rw [e]; simp⟩) (fun m hm => ?_) (fun b u e => ?_) I.bare
  · have e : b = it := by simpa using hb
    subst e
    exact ⟨h1, hL, h2, h3⟩
  · obtain ⟨o, es, ep, ho, r⟩ := hm
    exact ⟨o, es, ep, k _ o (Ne.symm hL) ho, r⟩
  · refine (I.hok b u e).stay (fun c v hc q => k c v ?_ q) (fun _ q => q) fun _ _ q => q
    rcases hc with z | z
    · rw [z]; exact nit b u e
    · exact nit c _ z
theorem Inv.tok (I : Inv X pins σ H s) (t : Nat) : Inv X pins σ H { s with toks := t } := I.un (h' := s.heap) (t' := t) Un.refl I.hok
theorem Inv.kept {t' : Nat} (I : Inv X pins σ H s) (k : ∀ b u, s.heap.get? b = some u → h'.get? b = some u) : Inv X pins σ H { s with heap := h', toks := t' } := I.un (Un.kept k) (I.hok.kept k)
theorem Inv.laid {a : Addr} {o : HO} {t' : Nat} (I : Inv X pins σ H s) (k : ∀ b u, s.heap.get? b = some u → h'.get? b = some u) (hp : s.heap.objs.size ≤ a) (new : ObjOk X.prog X.w (upd H a o) h' a o) :
    Inv X pins σ (upd H a o) { s with heap := h', toks := t' } := I.un (Un.laid k hp (I.hok.fresh hp)) (I.hok.laid k hp new)
theorem Inv.write {x e : Addr} {o : HO} {t' : Nat} (I : Inv X pins σ H s) (mu : Mut (H x)) (he : e = x ∨ H e = some (.own x)) (k : ∀ b u, b ≠ e → s.heap.get? b = some u → h'.get? b = some u) (heo : ∃ u, h'.get? e = some u)
    (new : ObjOk X.prog X.w (upd H x o) h' x o) : Inv X pins σ (upd H x o) { s with heap := h', toks := t' } := I.un (Un.write mu he k heo) (I.hok.write mu he k heo new)
theorem Inv.pins_of {pins' : List (Addr × Obj)} (I : Inv X pins σ H s) (h : ∀ p ∈ pins', s.heap.get? p.1 = some p.2 ∧ H p.1 = none ∧ p.1 ≠ X.env.locals ∧ p.1 ∉ X.fs ∧ ∀ v, p.2.data ≠ .cell v) : Inv X pins' σ H s :=
  ⟨I.ok, I.os, I.bare, I.base, I.loc, I.cell, I.free, I.freeC, fun p hp => (List.mem_append.mp hp).elim (fun z => I.pin p (List.mem_append_left _ z)) (h p), I.hok, I.len⟩
theorem nodup_ix {N : List Str} (hN : N.Nodup) {i j : Nat} {x : Str} (a : N[i]? = some x) (b : N[j]? = some x) : i = j := by
  obtain ⟨h1, e1⟩ := List.getElem?_eq_some_iff.mp a
  obtain ⟨h2, e2⟩ := List.getElem?_eq_some_iff.mp b
  exact (List.getElem_inj hN).mp (e1.trans e2.symm)
theorem store_ok2 {M : Model} {A : Around} {E : Value → Shared → Prop} {i : Nat} {x : Str} {v : V} {u : Value} {Q : Unit → Shared → Prop} (I : Inv X pins σ H s) (hN : X.N.Nodup) (hi : X.N[i]? = some x) (hx : Loc X.env.scope x) (r : RelV v u)
    (h : ∀ s', Inv X pins (σ.set i (some v)) H s' → (∃ a, Heap.SameBut a s.heap s'.heap ∧ (a = X.env.locals ∨ X.env.cells.lookup x = some a)) → Q () s') (hf : X.fn x = true ∨ X.env.scope.names.lookup x = some .local := by first | exact .inl rfl | exact .inr rfl | assumption) : wpAny M A (storeName X.env x u) Q E s := by
  obtain ⟨m, hn, hl⟩ := id I.loc
  have hcls : (X.env.scope.kind == .class || (X.env.scope.kind == .module && X.env.locals != X.env.globals)) = false := by rw [I.ok.kind]; rfl
  have hiσ : i < σ.length := by rw [I.len]; exact (List.getElem?_eq_some_iff.mp hi).1
  have cne := I.cne
  have tracked : ∀ {a : Addr} {h' : Heap}, (∃ o, s.heap.get? a = some o ∧ H a = none) → Heap.SameBut a s.heap h' → HOk X.prog X.w H h' := fun {a h'} ha hs b ob e => by
    obtain ⟨_, _, hfree⟩ := ha
    refine (I.hok b ob e).stay (fun c w' hc q => (hs.2 c ?_).trans q) (fun _ q => q) fun _ _ q => q
    rintro rfl
    rcases hc with rfl | hc
    · rw [hfree] at e; cases e
    · rw [hfree] at hc; cases hc
  rcases hx with hk | hk
  · refine wpAny_storeName_local hk hn (fun h' hn' hs => ?_) hcls
    obtain ⟨oL, _, _, hoL, _⟩ := id hn
    refine h _ ⟨I.ok, I.os, I.bare, ⟨fun b o e n hb hx => ?_, fun b o e n hb hx => ?_, I.base.free, fun b o e hx => ?_, I.base.tups, I.base.frzs, I.base.tbls⟩, ⟨_, hn', fun j y v' e1 e2 e3 => ?_⟩, fun y c e => ?_, I.free, I.freeC, fun p hp => ?_, tracked ⟨oL, hoL, I.free⟩ hs, by simpa using I.len⟩ ⟨_, hs, .inl rfl⟩
    · exact (hs.2 b (Nat.ne_of_lt (Nat.lt_of_lt_of_le (Heap.lt_size e) I.ok.above))).trans (I.base.keep b o e n hb hx)
    · obtain ⟨sl, e1⟩ := I.base.slot b o e n hb hx
      exact ⟨sl, (hs.2 b (Nat.ne_of_lt (Nat.lt_of_lt_of_le (Heap.lt_size e) I.ok.above))).trans e1⟩
    · obtain ⟨o', e1⟩ := I.base.there b o e hx
      exact ⟨o', (hs.2 b (Nat.ne_of_lt (Nat.lt_of_lt_of_le (Heap.lt_size e) I.ok.above))).trans e1⟩
    · by_cases hj : j = i
      · subst hj
        rw [hi] at e1; cases e1
        rw [List.getElem?_set_self hiσ] at e2
        cases e2
        exact ⟨u, r, .inl ⟨hk, by simp⟩⟩
      · rw [List.getElem?_set_ne (Ne.symm hj)] at e2
        obtain ⟨u', r', q⟩ := hl j y v' e1 e2 e3
        refine ⟨u', r', ?_⟩
        rcases q with ⟨k, e⟩ | ⟨k, c, e, z⟩
        · refine .inl ⟨k, ?_⟩
          have : y ≠ x := fun e => hj (nodup_ix hN e1 (e ▸ hi))
          simp [this, e]
        · exact .inr ⟨k, c, e, z.sameBut hs (cne y c e)⟩
    · obtain ⟨w', z⟩ := I.cell y c e
      exact ⟨w', z.sameBut hs (cne y c e)⟩
    · obtain ⟨e, n, ne, nf, d⟩ := I.pin p hp
      exact ⟨(hs.2 p.1 ne).trans e, n, ne, nf, d⟩
  · have hfn : X.fn x = true := by
      rcases hf with z | z
      · exact z
      · rw [z] at hk; cases hk
    obtain ⟨c, hc⟩ := I.ok.has x (.inl hk)
    obtain ⟨w', z⟩ := I.cell x c hc
    refine wpAny_storeName_cell I.ok.kind hk hc z (fun h' hc' hs => ?_)
    obtain ⟨oc, hoc, hocd⟩ := id z
    refine h { s with heap := h' } ⟨I.ok, I.os, I.bare, ⟨fun b o e n hb hx => ?_, fun b o e n hb hx => ?_, I.base.free, fun b o e hx => ?_, I.base.tups, I.base.frzs, I.base.tbls⟩, ⟨m, hn.sameBut hs (Ne.symm (cne x c hc)), fun j y v' e1 e2 e3 => ?_⟩, fun y c' e => ?_, I.free, I.freeC, fun p hp => ?_, tracked ⟨oc, hoc, I.freeC x c hc⟩ hs, by simpa using I.len⟩ ⟨c, hs, .inr hc⟩
    · exact (hs.2 b (Nat.ne_of_lt (Nat.lt_of_lt_of_le (Heap.lt_size e) (I.ok.cab x c hfn hc)))).trans (I.base.keep b o e n hb hx)
    · obtain ⟨sl, e1⟩ := I.base.slot b o e n hb hx
      exact ⟨sl, (hs.2 b (Nat.ne_of_lt (Nat.lt_of_lt_of_le (Heap.lt_size e) (I.ok.cab x c hfn hc)))).trans e1⟩
    · obtain ⟨o', e1⟩ := I.base.there b o e hx
      exact ⟨o', (hs.2 b (Nat.ne_of_lt (Nat.lt_of_lt_of_le (Heap.lt_size e) (I.ok.cab x c hfn hc)))).trans e1⟩
    · by_cases hj : j = i
      · subst hj
        rw [hi] at e1; cases e1
        rw [List.getElem?_set_self hiσ] at e2
        cases e2
        exact ⟨u, r, .inr ⟨.inl hk, c, hc, hc'⟩⟩
      · rw [List.getElem?_set_ne (Ne.symm hj)] at e2
        obtain ⟨u', r', q⟩ := hl j y v' e1 e2 e3
        refine ⟨u', r', ?_⟩
        rcases q with q | ⟨k, c', e, z'⟩
        · exact .inl q
        · refine .inr ⟨k, c', e, z'.sameBut hs ?_⟩
          rintro rfl
          exact hj (nodup_ix hN e1 (I.ok.inj _ _ _ e hc ▸ hi))
    · by_cases hcc : c' = c
      · subst hcc; exact ⟨_, hc'⟩
      · obtain ⟨w2, z2⟩ := I.cell y c' e
        exact ⟨w2, z2.sameBut hs hcc⟩
    · obtain ⟨e, n, ne, nf, d⟩ := I.pin p hp
      refine ⟨(hs.2 p.1 ?_).trans e, n, ne, nf, d⟩
      intro q
      rw [q, hoc] at e
      have q' : oc = p.2 := Option.some.inj e
      exact d w' (by rw [← q']; exact hocd)
theorem store_ok {M : Model} {A : Around} {E : Value → Shared → Prop} {i : Nat} {x : Str} {v : V} {u : Value} {Q : Unit → Shared → Prop} (I : Inv X pins σ H s) (hN : X.N.Nodup) (hi : X.N[i]? = some x) (hx : Loc X.env.scope x) (r : RelV v u)
    (h : ∀ s', Inv X pins (σ.set i (some v)) H s' → Q () s') (hf : X.fn x = true ∨ X.env.scope.names.lookup x = some .local := by first | exact .inl rfl | exact .inr rfl | assumption) : wpAny M A (storeName X.env x u) Q E s :=
  store_ok2 I hN hi hx r (fun s' I' _ => h s' I') hf
theorem Inv.call' {s' : Shared} {ch : List Addr} (I : Inv X pins σ H s) (ho : s'.os = s.os) (u : Un (frs X.stack) ch H H' s.heap s'.heap) (hok : HOk X.prog X.w H' s'.heap) (hg : AllBare s'.gens)
    (hch : ∀ b ∈ ch, (b ∈ X.ex ∨ X.s₀.heap.objs.size ≤ b) ∧ b ≠ X.env.locals ∧ (∀ x c, X.env.cells.lookup x = some c → c ≠ b) ∧ ∀ p ∈ X.pn ++ pins, p.1 ≠ b) : Inv X pins σ H' s' := by
  obtain ⟨h', g', d', t', o'⟩ := s'
  have e : o' = s.os := ho
  subst e
  exact I.call (g' := g') (t' := t') (d' := d') u hok hg hch
end
abbrev XK := Value → Option Addr → Hp → Prop
abbrev St := List (Option V)
abbrev VK := V → Hp → Prop
abbrev TE := St → Hp → VK → Prop
abbrev TT := St → Hp → (Bool → Hp → Prop) → Prop
abbrev TA := St → Hp → (List V → Hp → Prop) → Prop
structure Ends where
  nx : St → Hp → Prop
  rt : VK
  bk : St → Hp → Prop := fun _ _ => False
  ct : St → Hp → Prop := fun _ _ => False
abbrev TS := Ends → St → Hp → Prop
def EP (X : Cx) (pins : List (Addr × Obj)) (σ : St) (Q : VK) (u : Value) (s' : Shared) : Prop := ∃ v H', Inv X pins σ H' s' ∧ RelV v u ∧ Q v H'
def TP (X : Cx) (pins : List (Addr × Obj)) (σ : St) (Q : Bool → Hp → Prop) (b : Bool) (s' : Shared) : Prop := ∃ H', Inv X pins σ H' s' ∧ Q b H'
def AP (X : Cx) (pins : List (Addr × Obj)) (σ : St) (Q : List V → Hp → Prop) (us : List Value) (s' : Shared) : Prop := ∃ vs H', Inv X pins σ H' s' ∧ Vals vs us ∧ Q vs H'
def SP (X : Cx) (pins : List (Addr × Obj)) (D : Ends) (f : Flow) (s' : Shared) : Prop :=
  match f with
  | .next => ∃ σ' H', Inv X pins σ' H' s' ∧ D.nx σ' H'
  | .brk => ∃ σ' H', Inv X pins σ' H' s' ∧ D.bk σ' H'
  | .cont => ∃ σ' H', Inv X pins σ' H' s' ∧ D.ct σ' H'
  | .ret u => ∃ v σ' H', Inv X pins σ' H' s' ∧ RelV v u ∧ D.rt v H'
def PE (X : Cx) (e : Expr) (t : TE) : Prop :=
  ∀ (pins : List (Addr × Obj)) (s : Shared) (σ : St) (H : Hp) (Q : VK), Inv X pins σ H s → t σ H Q → wpAny (model X.prog X.w) X.A (eval e X.env) (EP X pins σ Q) X.xe s
def PT (X : Cx) (e : Expr) (t : TT) : Prop :=
  ∀ (pins : List (Addr × Obj)) (s : Shared) (σ : St) (H : Hp) (Q : Bool → Hp → Prop), Inv X pins σ H s → t σ H Q → wpAny (model X.prog X.w) X.A (isTrue e X.env (eval e X.env)) (TP X pins σ Q) X.xe s
def PW (X : Cx) (e : Expr) (t : TT) : Prop :=
  ∀ (whole : Sem Value) (pins : List (Addr × Obj)) (s : Shared) (σ : St) (H : Hp) (Q : Bool → Hp → Prop), Inv X pins σ H s → t σ H Q → wpAny (model X.prog X.w) X.A (isTrue e X.env whole) (TP X pins σ Q) X.xe s
theorem PW.pt {X : Cx} {e : Expr} {t : TT} (h : PW X e t) : PT X e t := h _
def PA (X : Cx) (es : List Expr) (t : TA) : Prop :=
  ∀ (pos : Pos) (pins : List (Addr × Obj)) (s : Shared) (σ : St) (H : Hp) (Q : List V → Hp → Prop), Inv X pins σ H s → t σ H Q → wpAny (model X.prog X.w) X.A (spliced (backTo pos (starEach es X.env))) (AP X pins σ Q) X.xe s
def PS (X : Cx) (st : Stmt) (t : TS) : Prop :=
  ∀ (pins : List (Addr × Obj)) (s : Shared) (σ : St) (H : Hp) (D : Ends), Inv X pins σ H s → t D σ H → wpAny (model X.prog X.w) X.A (exec st X.env) (SP X pins D) X.xe s
def PSs (X : Cx) (st : List Stmt) (t : TS) : Prop :=
  ∀ (pins : List (Addr × Obj)) (s : Shared) (σ : St) (H : Hp) (D : Ends), Inv X pins σ H s → t D σ H → wpAny (model X.prog X.w) X.A (execs st X.env) (SP X pins D) X.xe s
theorem thn {α : Type} {t : Sem α} {Q Q' : α → Shared → Prop} {M : Model} {A : Around} {E : Value → Shared → Prop} {s : Shared} (h : wpAny M A t Q E s) (hQ : ∀ a s, Q a s → Q' a s) : wpAny M A t Q' E s := wpAny_mono h hQ fun _ _ x => x
end L2
namespace L2
open PySem PySem.Spec PyProof.Rows
section
variable {X : Cx}
def tVar (i : Nat) : TE := fun σ H Q => ∃ v, σ[i]? = some (some v) ∧ Q v H
def tC (v : V) : TE := fun _ H Q => Q v H
theorem pe_var {i : Nat} {x : Str} {pos : Pos} (hN : X.N[i]? = some x) (hv : Vis X.env.scope x) (hd : (x == ("__debug__" : Str)) = false := by decide) (hcd : (x == ("__classdict__" : Str)) = false := by decide) : PE X (.Name x pos) (tVar i) := by
  intro pins s σ H Q I h
  obtain ⟨v, e, h⟩ := h
  obtain ⟨m, hn, hl⟩ := I.loc
  obtain ⟨u, r, l⟩ := hl i x v hN e hv
  have fin : EP X pins σ Q u s := ⟨v, H, I, r, h⟩
  rcases l with ⟨hk, hm⟩ | ⟨hk, c, hc, hcell⟩
  · exact wpAny_Name (wpAny_loadName_local I.ok.kind hk hn hm fin) hd
  · rcases hk with hk | hk
    · exact wpAny_Name (wpAny_loadName_cell I.ok.kind hk hc hcell fin) hd
    · exact wpAny_Name (wpAny_loadName_free I.ok.kind hk hc hcell fin hcd) hd
theorem pe_int {i j pos} : PE X (.Constant (.int i) j pos) (tC (.int i)) := fun _ _ _ H _ I h => wpAny_Constant_int ⟨.int i, H, I.tok _, ⟨_, rfl⟩, h⟩
theorem pe_bl {b j pos} : PE X (.Constant (.bool b) j pos) (tC (.bl b)) := fun _ _ _ H _ I h => Constant_bool ⟨.bl b, H, I, rfl, h⟩
theorem pe_str {x j pos} : PE X (.Constant (.str x) j pos) (tC (.str x)) := fun _ _ _ H _ I h => Calls.Constant_str ⟨.str x, H, I.tok _, ⟨_, rfl⟩, h⟩
def Gl (X : Cx) (x : Str) : Prop := X.env.kindOf x = some .globalImplicit
theorem ld_glob {E : Value → Shared → Prop} {pins : List (Addr × Obj)} {s : Shared} {σ : St} {H : Hp} {x : Str} {u : Value} {pos : Pos} {Q : Value → Shared → Prop} (I : Inv X pins σ H s) (hg : Gl X x) (hm : X.mg x = some u) (h : Q u s)
    (hd : (x == ("__debug__" : Str)) = false := by decide) : wpAny (model X.prog X.w) X.A (eval (.Name x pos) X.env) Q E s :=
  Calls.Name_function_global I.ok.kind hg (Calls.loadGlobal_global (by rw [I.ok.glob]; exact I.mod.glob.keeps I.bk) hm h) hd
theorem ld_blt {E : Value → Shared → Prop} {pins : List (Addr × Obj)} {s : Shared} {σ : St} {H : Hp} {x : Str} {u : Value} {pos : Pos} {Q : Value → Shared → Prop} (I : Inv X pins σ H s) (hg : Gl X x) (hm : X.mg x = none) (hv : bootBuiltins x = some u) (h : Q u s)
    (hn : x ≠ "__name__" := by decide) (hd : (x == ("__debug__" : Str)) = false := by decide) : wpAny (model X.prog X.w) X.A (eval (.Name x pos) X.env) Q E s := by
  obtain ⟨mb, h1, h2⟩ := I.mod.blt
  exact Calls.Name_function_global I.ok.kind hg (Calls.loadGlobal_builtin (by rw [I.ok.glob]; exact I.mod.glob.keeps I.bk) hm (by rw [I.ok.blt]; exact h1.keeps I.bk) ((h2 x hn).trans hv) h) hd
theorem pe_glob {x : Str} {v : V} {u : Value} {pos : Pos} (hg : Gl X x) (hm : X.mg x = some u) (r : RelV v u) (hd : (x == ("__debug__" : Str)) = false := by decide) : PE X (.Name x pos) (tC v) :=
  fun _ _ _ H _ I h => ld_glob I hg hm ⟨v, H, I, r, h⟩ hd
theorem pe_bltn {x : Str} {v : V} {u : Value} {pos : Pos} (hg : Gl X x) (hm : X.mg x = none) (hv : bootBuiltins x = some u) (r : RelV v u) (hn : x ≠ "__name__" := by decide) (hd : (x == ("__debug__" : Str)) = false := by decide) : PE X (.Name x pos) (tC v) :=
  fun _ _ _ H _ I h => ld_blt I hg hm hv ⟨v, H, I, r, h⟩ hn hd
variable {a b : Expr} {ta tb : TE} {pos : Pos}
variable {tA tB' : TT} {rest : List Expr}
def tAnd (t u : TT) : TT := fun σ H Q => t σ H fun c H1 => if c = true then u σ H1 Q else Q false H1
def tOr (t u : TT) : TT := fun σ H Q => t σ H fun c H1 => if c = true then Q true H1 else u σ H1 Q
def tNot (t : TT) : TT := fun σ H Q => t σ H fun c H1 => Q (!c) H1
theorem pw_and1 (ha : PT X a tA) : PW X (.BoolOp .And [a] pos) tA := by
  intro wh pins s σ H Q I h
  refine isTrue_and (thn (ha pins s σ H Q I h) fun c s1 e => ?_)
  cases c with
  | true => exact isTrue_and_nil e
  | false => exact e
theorem pw_or1 (ha : PT X a tA) : PW X (.BoolOp .Or [a] pos) tA := by
  intro wh pins s σ H Q I h
  refine isTrue_or (thn (ha pins s σ H Q I h) fun c s1 e => ?_)
  cases c with
  | false => exact isTrue_or_nil e
  | true => exact e
theorem pw_and (ha : PT X a tA) (hb : PW X (.BoolOp .And (b :: rest) pos) tB') : PW X (.BoolOp .And (a :: b :: rest) pos) (tAnd tA tB') := by
  intro wh pins s σ H Q I h
  refine isTrue_and (thn (ha pins s σ H _ I h) fun c s1 ⟨H1, I1, q1⟩ => ?_)
  cases c with
  | true => exact hb wh pins s1 σ H1 Q I1 q1
  | false => exact ⟨H1, I1, q1⟩
theorem pw_or (ha : PT X a tA) (hb : PW X (.BoolOp .Or (b :: rest) pos) tB') : PW X (.BoolOp .Or (a :: b :: rest) pos) (tOr tA tB') := by
  intro wh pins s σ H Q I h
  refine isTrue_or (thn (ha pins s σ H _ I h) fun c s1 ⟨H1, I1, q1⟩ => ?_)
  cases c with
  | true => exact ⟨H1, I1, q1⟩
  | false => exact hb wh pins s1 σ H1 Q I1 q1
theorem pt_not (ha : PT X a tA) : PT X (.UnaryOp .Not a pos) (tNot tA) := by
  intro pins s σ H Q I h
  exact isTrue_not (ha pins s σ H (fun c H1 => Q (!c) H1) I h)
def tAndV (ta tb : TE) : TE := fun σ H Q => ta σ H fun x H1 => ∃ c, x = .bl c ∧ if c = true then tb σ H1 Q else Q (.bl false) H1
def tOrV (ta tb : TE) : TE := fun σ H Q => ta σ H fun x H1 => ∃ c, x = .bl c ∧ if c = true then Q (.bl true) H1 else tb σ H1 Q
def tNotV (ta : TE) : TE := fun σ H Q => ta σ H fun x H1 => ∃ c, x = .bl c ∧ Q (.bl (!c)) H1
theorem pe_one {op} {t : TE} (h : PE X a t) : PE X (.BoolOp op [a] pos) t := fun pins s σ H Q I hw => BoolOp_one (h pins s σ H Q I hw)
theorem pe_and (ha : PE X a ta) (hb : PE X (.BoolOp .And (b :: rest) pos) tb) : PE X (.BoolOp .And (a :: b :: rest) pos) (tAndV ta tb) := by
  intro pins s σ H Q I h
  refine BoolOp_and (thn (ha pins s σ H _ I h) fun v s1 ⟨x, H1, I1, r1, q1⟩ => ?_)
  obtain ⟨c, rfl, q1⟩ := q1
  cases r1
  refine wpAny_truthy_bool ?_
  cases c with
  | true => exact hb pins s1 σ H1 Q I1 q1
  | false => exact ⟨.bl false, H1, I1, rfl, q1⟩
theorem pe_or (ha : PE X a ta) (hb : PE X (.BoolOp .Or (b :: rest) pos) tb) : PE X (.BoolOp .Or (a :: b :: rest) pos) (tOrV ta tb) := by
  intro pins s σ H Q I h
  refine BoolOp_or (thn (ha pins s σ H _ I h) fun v s1 ⟨x, H1, I1, r1, q1⟩ => ?_)
  obtain ⟨c, rfl, q1⟩ := q1
  cases r1
  refine wpAny_truthy_bool ?_
  cases c with
  | false => exact hb pins s1 σ H1 Q I1 q1
  | true => exact ⟨.bl true, H1, I1, rfl, q1⟩
theorem pe_not (ha : PE X a ta) : PE X (.UnaryOp .Not a pos) (tNotV ta) := by
  intro pins s σ H Q I h
  refine UnaryOp_ (thn (ha pins s σ H _ I h) fun v s1 ⟨x, H1, I1, r1, q1⟩ => ?_)
  obtain ⟨c, rfl, q1⟩ := q1
  cases r1
  exact not_of (wpAny_truthy_bool ⟨.bl (!c), H1, I1, rfl, q1⟩)
def tIf (t : TT) (ta tb : TE) : TE := fun σ H Q => t σ H fun c H1 => if c = true then ta σ H1 Q else tb σ H1 Q
theorem pe_ifExp {c : Expr} (hc : PT X c tA) (ha : PE X a ta) (hb : PE X b tb) : PE X (.IfExp c a b pos) (tIf tA ta tb) := by
  intro pins s σ H Q I h
  refine wpAny_IfExp (thn (hc pins s σ H _ I h) fun d s1 ⟨H1, I1, q1⟩ => ?_)
  cases d with
  | true => exact ha pins s1 σ H1 Q I1 q1
  | false => exact hb pins s1 σ H1 Q I1 q1
end
end L2
namespace L2
open PySem PySem.Spec PyProof.Rows
def SqL (K : PySem.W.Frag) (H : Hp) (a : Addr) (xs : List V) : Prop :=
  Rd H a (.lst xs) ∨
    ∃ (o : Obj) (its : Array Value) (n : Nat), K.lookup a = some o ∧ o.cls = .type "list" ∧ o.dict = none ∧ o.data = .seq its n ∧ its.size ≤ sizeLine ∧ Vals xs its.toList
def SqT (K : PySem.W.Frag) (H : Hp) (a : Addr) (xs : List V) : Prop :=
  Rd H a (.tup xs) ∨
    ∃ (o : Obj) (its : Array Value) (n : Nat), K.lookup a = some o ∧ o.cls = .type "tuple" ∧ o.data = .seq its n ∧ its.size ≤ sizeLine ∧ Vals xs its.toList
def absV : Value → Option V
  | .none => some .non
  | .bool b => some (.bl b)
  | .int i _ => some (.int i)
  | .str x _ => some (.str x)
  | .bytes b _ => some (.byt b)
  | .float b _ => some (.flt b)
  | .ref a => some (.ref a)
  | .type n => some (.ty n)
  | _ => none
theorem RelV.abs {x : V} {u : Value} (r : RelV x u) : absV u = some x := by
  cases x with
  | non => cases r; rfl
  | bl _ => cases r; rfl
  | int _ => obtain ⟨t, rfl⟩ := r; rfl
  | str _ => obtain ⟨t, rfl⟩ := r; rfl
  | byt _ => obtain ⟨t, rfl⟩ := r; rfl
  | flt _ => obtain ⟨t, rfl⟩ := r; rfl
  | ref _ => cases r; rfl
  | ty _ => cases r; rfl
theorem RelV.inj {x y : V} {u : Value} (r : RelV x u) (q : RelV y u) : x = y := Option.some.inj (r.abs.symm.trans q.abs)
theorem Vals.inj : ∀ {xs ys : List V} {us : List Value}, Vals xs us → Vals ys us → xs = ys
  | _, _, _, .nil, .nil => rfl
  | _, _, _, .cons r t, .cons r' t' => by rw [r.inj r', Vals.inj t t']
section
variable {X : Cx} {pins : List (Addr × Obj)} {σ : St} {H : Hp} {s : Shared} {a : Addr} {xs ys : List V}
theorem Inv.list (I : Inv X pins σ H s) (h : SqL X.K H a xs) : ∃ its : List Value, Vals xs its ∧ PlainL s.heap a its.toArray ∧ xs.length ≤ sizeLine := by
  rcases h with h | ⟨o, its, n, hk, hc, hd, hs, hz, r⟩
  · obtain ⟨z, its, n, r, e⟩ := h.ok I.hok
    exact ⟨its, r, ⟨_, n, e, rfl, rfl, rfl⟩, z⟩
  · refine ⟨its.toList, r, ⟨o, n, I.kIn a o hk, hc, hd, by simpa using hs⟩, ?_⟩
    have e := r.length
    simp only [Array.length_toList] at e
    omega
theorem Inv.tuple (I : Inv X pins σ H s) (h : SqT X.K H a xs) : ∃ its : List Value, Vals xs its ∧ IsTup s.heap a its.toArray ∧ xs.length ≤ sizeLine := by
  rcases h with h | ⟨o, its, n, hk, hc, hs, hz, r⟩
  · obtain ⟨z, its, r, p⟩ := h.ok I.hok
    exact ⟨its, r, p, z⟩
  · refine ⟨its.toList, r, ⟨o, I.kIn a o hk, hc, n, by simpa using hs⟩, ?_⟩
    have e := r.length
    simp only [Array.length_toList] at e
    omega
theorem Inv.list_inj (I : Inv X pins σ H s) (h : SqL X.K H a xs) (h' : SqL X.K H a ys) : xs = ys := by
  obtain ⟨its, r, ⟨o, n, e, _, _, d⟩, _⟩ := I.list h
  obtain ⟨its', r', ⟨o', n', e', _, _, d'⟩, _⟩ := I.list h'
  rw [e] at e'; cases e'
  rw [d] at d'
  injection d' with d1 _
  have : its = its' := by simpa using congrArg Array.toList d1
  subst this
  exact r.inj r'
theorem Inv.tuple_inj (I : Inv X pins σ H s) (h : SqT X.K H a xs) (h' : SqT X.K H a ys) : xs = ys := by
  obtain ⟨its, r, ⟨o, e, _, n, d⟩, _⟩ := I.tuple h
  obtain ⟨its', r', ⟨o', e', _, n', d'⟩, _⟩ := I.tuple h'
  rw [e] at e'; cases e'
  rw [d] at d'
  injection d' with d1 _
  have : its = its' := by simpa using congrArg Array.toList d1
  subst this
  exact r.inj r'
end
abbrev Cx.wish (X : Cx) (E : Value → Shared → Prop) : Cx := { X with xe := E }
abbrev Cx.nox (X : Cx) : Cx := X.wish fun _ _ => False
theorem Cx.Ok.wish {X : Cx} (ok : X.Ok) (E : Value → Shared → Prop) : (X.wish E).Ok :=
  ⟨ok.mod, ok.kind, ok.glob, ok.blt, ok.above, ok.inj, ok.has, ok.cab, ok.hd, ok.frames, ok.stk, ok.exf, ok.bs, ok.bsz, ok.noex, ok.exfs, ok.funs, ok.frf⟩
theorem Cx.Ok.unwish {X : Cx} {E : Value → Shared → Prop} (ok : (X.wish E).Ok) : X.Ok :=
  ⟨ok.mod, ok.kind, ok.glob, ok.blt, ok.above, ok.inj, ok.has, ok.cab, ok.hd, ok.frames, ok.stk, ok.exf, ok.bs, ok.bsz, ok.noex, ok.exfs, ok.funs, ok.frf⟩
section
variable {X : Cx} {pins : List (Addr × Obj)} {σ : St} {H : Hp} {s : Shared} {E : Value → Shared → Prop}
theorem Inv.wish (I : Inv X pins σ H s) (E : Value → Shared → Prop) : Inv (X.wish E) pins σ H s := ⟨I.ok.wish E, I.os, I.bare, I.base, I.loc, I.cell, I.free, I.freeC, I.pin, I.hok, I.len⟩
theorem Inv.unwish (I : Inv (X.wish E) pins σ H s) : Inv X pins σ H s := ⟨I.ok.unwish, I.os, I.bare, I.base, I.loc, I.cell, I.free, I.freeC, I.pin, I.hok, I.len⟩
theorem SP.unwish {D : Ends} {f : Flow} {s' : Shared} (h : SP (X.wish E) pins D f s') : SP X pins D f s' := by
  cases f with
  | next => obtain ⟨σ', H', I, q⟩ := h; exact ⟨σ', H', I.unwish, q⟩
  | brk => obtain ⟨σ', H', I, q⟩ := h; exact ⟨σ', H', I.unwish, q⟩
  | cont => obtain ⟨σ', H', I, q⟩ := h; exact ⟨σ', H', I.unwish, q⟩
  | ret u => obtain ⟨v, σ', H', I, r, q⟩ := h; exact ⟨v, σ', H', I.unwish, r, q⟩
theorem PSs.nox {st : List Stmt} {t : TS} (h : PSs X.nox st t) : PSs X st t := fun pins s σ H D I hw =>
  wpAny_mono (h pins s σ H D (I.wish _) hw) (fun _ _ q => q.unwish) fun _ _ z => False.elim z
end
section
variable {X : Cx} {st : Stmt} {rest : List Stmt} {t u : TS} {e : Expr} {te : TE} {pos : Pos}
def tNext : TS := fun D σ H => D.nx σ H
def tSeq (t u : TS) : TS := fun D σ H => t { D with nx := u D } σ H
theorem pss_nil : PSs X [] tNext := fun _ _ σ H _ I h => wpAny_execs_nil ⟨σ, H, I, h⟩
theorem pss_cons (h1 : PS X st t) (h2 : PSs X rest u) : PSs X (st :: rest) (tSeq t u) := by
  intro pins s σ H D I h
  refine wpAny_execs_cons (thn (h1 pins s σ H { D with nx := u D } I h) fun f s1 q => ?_)
  cases f with
  | next =>
    obtain ⟨σ', H', I', q⟩ := q
    exact h2 pins s1 σ' H' D I' q
  | ret v => exact q
  | brk => exact q
  | cont => exact q
theorem pss_one (h1 : PS X st t) : PSs X [st] t := by
  intro pins s σ H D I h
  refine wpAny_execs_cons (thn (h1 pins s σ H D I h) fun f s1 q => ?_)
  cases f with
  | next => exact wpAny_execs_nil q
  | ret v => exact q
  | brk => exact q
  | cont => exact q
theorem Inv.quiet {pins : List (Addr × Obj)} {σ : St} {H : Hp} {s : Shared} (I : Inv X pins σ H s) : interactive X.env = false := by simp [interactive, I.ok.kind]
def tDrop (te : TE) : TS := fun D σ H => te σ H fun _ H1 => D.nx σ H1
theorem ps_expr (he : PE X e te) (hs : swapsWith e none pos.line X.env = pure false := by rfl) : PS X (.Expr e pos) (tDrop te) := by
  intro pins s σ H D I h
  exact wpAny_Expr_any (thn (he pins s σ H _ I h) fun v s1 ⟨x, H1, I1, r1, q1⟩ => ⟨σ, H1, I1, q1⟩) I.quiet hs
def tRet (te : TE) : TS := fun D σ H => te σ H D.rt
theorem ps_ret (he : PE X e te) : PS X (.Return (some e) pos) (tRet te) := by
  intro pins s σ H D I h
  exact wpAny_Return_some (thn (he pins s σ H _ I h) fun v s1 ⟨x, H1, I1, r1, q1⟩ => ⟨x, σ, H1, I1, r1, q1⟩)
def tIfS (c : TT) (t u : TS) : TS := fun D σ H => c σ H fun b H1 => if b = true then t D σ H1 else u D σ H1
theorem ps_if {c : Expr} {a b : List Stmt} {tc : TT} (hc : PT X c tc) (ha : PSs X a t) (hb : PSs X b u) : PS X (.If c a b pos) (tIfS tc t u) := by
  intro pins s σ H D I h
  refine wpAny_If (thn (hc pins s σ H _ I h) fun d s1 ⟨H1, I1, q1⟩ => ?_)
  cases d with
  | true => exact ha pins s1 σ H1 D I1 q1
  | false => exact hb pins s1 σ H1 D I1 q1
end
abbrev TG := V → St → Hp → (St → Hp → Prop) → Prop
abbrev TGs := List V → St → Hp → (St → Hp → Prop) → Prop
def PG (X : Cx) (target : Expr) (t : TG) : Prop :=
  ∀ (pins : List (Addr × Obj)) (s : Shared) (σ : St) (H : Hp) (v : V) (u : Value) (Q : St → Hp → Prop), Inv X pins σ H s → RelV v u → t v σ H Q →
    wpAny (model X.prog X.w) X.A (assign target X.env u) (fun _ s' => ∃ σ' H', Inv X pins σ' H' s' ∧ Q σ' H') X.xe s
def PGs (X : Cx) (ts : List Expr) (t : TGs) : Prop :=
  ∀ (pins : List (Addr × Obj)) (s : Shared) (σ : St) (H : Hp) (vs : List V) (us : List Value) (Q : St → Hp → Prop), Inv X pins σ H s → Vals vs us → t vs σ H Q →
    wpAny (model X.prog X.w) X.A (assignInOrder ((assignEach ts X.env).map (·.2)) us) (fun _ s' => ∃ σ' H', Inv X pins σ' H' s' ∧ Q σ' H') X.xe s
section
variable {X : Cx} {pos : Pos}
def gName (i : Nat) : TG := fun v σ H Q => Q (σ.set i (some v)) H
theorem pg_name {i : Nat} {x : Str} (hN : X.N.Nodup) (hi : X.N[i]? = some x) (hx : Loc X.env.scope x) (hf : X.fn x = true ∨ X.env.scope.names.lookup x = some .local := by first | exact .inl rfl | exact .inr rfl | assumption) : PG X (.Name x pos) (gName i) := by
  intro pins s σ H v u Q I r h
  exact wpAny_assign_Name (store_ok I hN hi hx r (fun s' I' => ⟨_, H, I', h⟩) hf)
def gNil : TGs := fun vs σ H Q => vs = [] ∧ Q σ H
def gCons (t : TG) (u : TGs) : TGs := fun vs σ H Q => ∃ v r, vs = v :: r ∧ t v σ H fun σ' H' => u r σ' H' Q
theorem pgs_nil : PGs X [] gNil := by
  intro pins s σ H vs us Q I r h
  obtain ⟨e, h⟩ := h
  subst e
  cases r
  exact assignInOrder_nil ⟨σ, H, I, h⟩
theorem pgs_cons {e : Expr} {es : List Expr} {t : TG} {u : TGs} (h1 : PG X e t) (h2 : PGs X es u)
    (hs : (assignEach (e :: es) X.env).map (·.2) = assign e X.env :: (assignEach es X.env).map (·.2) := by rfl) : PGs X (e :: es) (gCons t u) := by
  intro pins s σ H vs us Q I r h
  obtain ⟨v, vr, e1, h⟩ := h
  subst e1
  cases r with
  | cons r rr =>
    rw [hs]
    refine assignInOrder_cons (thn (h1 pins s σ H _ _ _ I r h) fun _ s1 ⟨σ1, H1, I1, q1⟩ => ?_)
    exact h2 pins s1 σ1 H1 _ _ Q I1 rr q1
def gTup (K : PySem.W.Frag) (n : Nat) (t : TGs) : TG := fun v σ H Q => ∃ a xs, v = .ref a ∧ SqT K H a xs ∧ xs.length = n ∧ t xs σ H Q
theorem pg_tup {es : List Expr} {k : Nat} {t : TGs} {n : Nat} (hc : X.calm = true) (h : PGs X es t)
    (hn : (assignEach es X.env).length = n := by rfl) (hst : (assignEach es X.env).findIdx? (·.1) = none := by rfl) : PG X (.Tuple es k pos) (gTup X.K n t) := by
  intro pins s σ H v u Q I r hw
  obtain ⟨a, xs, e1, hq, hl, hw⟩ := hw
  subst e1
  cases r
  obtain ⟨its, rv, ht, hz⟩ := I.tuple hq
  refine assign_Tuple_tuple (I.ok.hd hc) ht (by simp [hn, ← hl, rv.length]) hst fun h' hx => ?_
  have I1 : Inv X pins σ H { s with heap := h' } := I.kept (t' := s.toks) fun b o e => hx b o (Nat.ne_of_lt (Heap.lt_size e)) e
  exact h pins _ σ H xs _ Q I1 (by simpa using rv) hw
def tAsg (te : TE) (g : TG) : TS := fun D σ H => te σ H fun x H1 => g x σ H1 D.nx
theorem ps_asg {tg e : Expr} {te : TE} {g : TG} (he : PE X e te) (hg : PG X tg g) (hs : swapsWithSole [tg] e pos.line X.env = pure false := by rfl) (hw : swappedStores [tg] e X.env = pure none := by rfl)
    (h1 : (assignEach [tg] X.env).map (·.2) = [assign tg X.env] := by rfl) : PS X (.Assign [tg] e pos) (tAsg te g) := by
  intro pins s σ H D I h
  refine wpAny_Assign_stores (thn (he pins s σ H _ I h) fun v s1 ⟨x, H1, I1, r1, q1⟩ => ?_) hs hw
  rw [h1]
  exact thn (hg pins s1 σ H1 x v _ I1 r1 q1) fun _ s2 q => q
theorem ps_set {i : Nat} {x : Str} {e : Expr} {te : TE} {pos' : Pos} (hN : X.N.Nodup) (hi : X.N[i]? = some x) (hx : Loc X.env.scope x) (he : PE X e te) (hs : swapsWith e (some (.Name x pos')) pos.line X.env = pure false := by rfl) (hf : X.fn x = true ∨ X.env.scope.names.lookup x = some .local := by first | exact .inl rfl | exact .inr rfl | assumption) :
    PS X (.Assign [.Name x pos'] e pos) (tAsg te (gName i)) := by
  intro pins s σ H D I h
  refine wpAny_Assign_Name (thn (he pins s σ H _ I h) fun v s1 ⟨y, H1, I1, r1, q1⟩ => ?_) hs
  exact store_ok I1 hN hi hx r1 (fun s2 I2 => ⟨_, H1, I2, q1⟩) hf
end
section
variable {X : Cx} {pos : Pos}
end
structure It where
  go : Nat → Hp → Prop
  yld : Nat → Hp → V → Hp → Prop
  stop : Nat → Hp → Prop
def FpOk (X : Cx) (pins : List (Addr × Obj)) (H : Hp) (b : Addr) : Prop :=
  H b = none ∧ b ≠ X.env.locals ∧ b ∉ X.fs ∧ (b ∈ X.ex ∨ X.s₀.heap.objs.size ≤ b) ∧ (∀ x c, X.env.cells.lookup x = some c → c ≠ b) ∧ ∀ p ∈ X.pn ++ pins, p.1 ≠ b
theorem Inv.fpOk {X : Cx} {pins : List (Addr × Obj)} {σ : St} {H H' : Hp} {s : Shared} {b : Addr} (I : Inv X pins σ H s) (hb : s.heap.objs.size ≤ b) (hn : H' b = none) : FpOk X pins H' b := by
  refine ⟨hn, Nat.ne_of_gt (Nat.lt_of_lt_of_le I.lt hb), I.nofs hb, .inr (Nat.le_trans I.sz hb), fun x c e z => ?_, fun p hp z => ?_⟩
  · obtain ⟨v, q⟩ := I.cell x c e
    exact absurd (Nat.lt_of_lt_of_le q.lt (by rw [z]; exact hb)) (Nat.lt_irrefl _)
  · exact absurd (Nat.lt_of_lt_of_le (Heap.lt_size (I.pin p hp).1) (by rw [z]; exact hb)) (Nat.lt_irrefl _)
structure Turn (P : Program) (w : World) (K : PySem.W.Frag) (tg : Expr) (J : It) (fp : List Addr) (it : Addr) (tn : Nat → Heap → Prop) : Prop where
  mem : it ∈ fp
  obj : ∀ i h, tn i h → ∀ b ∈ fp, ∃ o, h.get? b = some o ∧ ∀ v, o.data ≠ .cell v
  keep : ∀ i h h', tn i h → (∀ b ∈ fp, ∀ o, h.get? b = some o → h'.get? b = some o) → tn i h'
  item : ∀ (X : Cx), X.prog = P → X.w = w → X.K = K → X.calm = true → ∀ (i : Nat) (pins : List (Addr × Obj)) (s : Shared) (σ : St) (H : Hp) (E : Value → Shared → Prop), Inv X pins σ H s → (∀ b ∈ fp, FpOk X pins H b) → tn i s.heap → J.go i H →
    wpAny (model P w) X.A (pyNext (.ref it)) (fun r s1 => ∃ u, r = some u ∧
      wpAny (model P w) X.A (letOwnedTupleGo tg (.ref it) u) (fun _ s2 => ∃ x H', Inv X pins σ H' s2 ∧ RelV x u ∧ J.yld i H x H' ∧ tn (i + 1) s2.heap ∧ ∀ b ∈ fp, H' b = none) E s1) E s
  done : ∀ (X : Cx), X.prog = P → X.w = w → X.K = K → X.calm = true → ∀ (i : Nat) (pins : List (Addr × Obj)) (s : Shared) (σ : St) (H : Hp) (E : Value → Shared → Prop), Inv X pins σ H s → (∀ b ∈ fp, FpOk X pins H b) → tn i s.heap → J.stop i H →
    wpAny (model P w) X.A (pyNext (.ref it)) (fun r s1 => r = none ∧ Inv X pins σ H s1) E s
  self : ∀ (A : Around) (i : Nat) (s : Shared) (Q : Value → Shared → Prop) (E : Value → Shared → Prop), tn i s.heap → Q (.ref it) s → wpAny (model P w) A (pyIter (.ref it)) Q E s
abbrev TI := St → Hp → (It → Hp → Prop) → Prop
def PIE (X : Cx) (pins : List (Addr × Obj)) (σ : St) (tg : Expr) (R : It → Hp → Prop) (itv : Value) (s2 : Shared) : Prop :=
  ∃ (it : Addr) (fp : List Addr) (tn : Nat → Heap → Prop) (J : It) (H' : Hp), itv = .ref it ∧ Inv X pins σ H' s2 ∧ Turn X.prog X.w X.K tg J fp it tn ∧ tn 0 s2.heap ∧ (∀ b ∈ fp, FpOk X pins H' b) ∧ R J H'
def PI (X : Cx) (tg iter : Expr) (wi : TI) : Prop :=
  ∀ (pins : List (Addr × Obj)) (s : Shared) (σ : St) (H : Hp) (R : It → Hp → Prop), Inv X pins σ H s → wi σ H R →
    wpAny (model X.prog X.w) X.A (eval iter X.env) (fun v s1 => wpAny (model X.prog X.w) X.A (pyIter v) (PIE X pins σ tg R) X.xe s1) X.xe s
theorem go_of {M : Model} {A : Around} {E : Value → Shared → Prop} {s : Shared} {tg : Expr} {it : Addr} {u : Value} {o : Obj} {n : String} {vs : Array Value} {Q : Unit → Shared → Prop} (ho : s.heap.get? it = some o) (hc : o.cls = .type n) (hd : o.data = .fields vs)
    (hn : ["enumerate", "zip", "dict_itemiterator", "dict_reverseitemiterator", "odict_iterator", "itertools.zip_longest", "itertools.pairwise"].contains n = false) (hQ : Q () s) : wpAny M A (letOwnedTupleGo tg (.ref it) u) Q E s := by
  unfold letOwnedTupleGo
  cases tg <;> first
    | exact wpAny_pure hQ
    | (cases u <;> first
        | exact wpAny_pure hQ
        | (refine wpAny_bind (wpAny_load ho ?_)
           rw [hc, hd]
           show wpAny M A (if (["enumerate", "zip", "dict_itemiterator", "dict_reverseitemiterator", "odict_iterator", "itertools.zip_longest", "itertools.pairwise"].contains n && vs[0]? == some (rawInt _)) = true then _ else _) Q E s
           rw [if_neg (by intro h; rw [hn, Bool.false_and] at h; cases h)]
           exact wpAny_pure hQ))
def Itl (K : PySem.W.Frag) (a : Addr) : It :=
  ⟨fun i H => ∃ xs x, SqL K H a xs ∧ xs[i]? = some x, fun i H x H' => H' = H ∧ ∀ xs, SqL K H a xs → xs[i]? = some x, fun i H => ∃ xs, SqL K H a xs ∧ xs.length ≤ i⟩
def Itt (K : PySem.W.Frag) (a : Addr) : It :=
  ⟨fun i H => ∃ xs x, SqT K H a xs ∧ xs[i]? = some x, fun i H x H' => H' = H ∧ ∀ xs, SqT K H a xs → xs[i]? = some x, fun i H => ∃ xs, SqT K H a xs ∧ xs.length ≤ i⟩
def Itr (lo : Int) (n : Nat) : It := ⟨fun i _ => i < n, fun i H x H' => H' = H ∧ x = .int (lo + i), fun i _ => n ≤ i⟩
theorem turn_list {P : Program} {w : World} {K : PySem.W.Frag} {tg : Expr} (a it : Addr) : Turn P w K tg (Itl K a) [it] it (fun i h => h.IsListIter it a i) where
  mem := by simp
  obj := fun i h st b hb => by
    have e : b = it := by simpa using hb
    subst e
    obtain ⟨o, e, c, d⟩ := st
    exact ⟨o, e, fun v z => by rw [d] at z; cases z⟩
  keep := fun i h h' st k => st.at fun o e => k it (by simp) o e
  item := by
    intro X hP hw hK hc i pins s σ H E I hf st hg
    subst hP hw hK
    obtain ⟨xs, x, hq, hx⟩ := hg
    obtain ⟨its, rv, p, hz⟩ := I.list hq
    obtain ⟨u, hu, ru⟩ := rv.get hx
    obtain ⟨f0, f1, f2, f3, f4, f5⟩ := hf it (by simp)
    refine wpAny_pyNext_list_item st p.isList (x := u) (by simpa using hu) fun h' st' sb => ?_
    have I1 : Inv X pins σ H { s with heap := h' } := I.turned (t' := s.toks) (fun b o hb e => (sb.2 b hb).trans e) f0 f1 f3 f4 f5
    obtain ⟨o, e, c, d⟩ := id st'
    exact ⟨u, rfl, go_of (s := { s with heap := h' }) e c d (by decide) ⟨x, H, I1, ru, ⟨rfl, fun ys hy => by rw [I.list_inj hy hq]; exact hx⟩, st', fun b hb => (hf b hb).1⟩⟩
  done := by
    intro X hP hw hK hc i pins s σ H E I hf st hg
    subst hP hw hK
    obtain ⟨xs, hq, hx⟩ := hg
    obtain ⟨its, rv, p, hz⟩ := I.list hq
    obtain ⟨f0, f1, f2, f3, f4, f5⟩ := hf it (by simp)
    have hl := rv.length
    exact wpAny_pyNext_list_end (I.ok.hd hc) st p.isList (by simp; omega) fun h' eb => ⟨rfl, I.turned (t' := s.toks) (fun b o hb e => eb b o hb e) f0 f1 f3 f4 f5⟩
  self := fun _ _ _ _ _ st h => wpAny_pyIter_listiter st h
theorem turn_tuple {P : Program} {w : World} {K : PySem.W.Frag} {tg : Expr} (a it : Addr) : Turn P w K tg (Itt K a) [it] it (fun i h => h.IsTupleIter it a i) where
  mem := by simp
  obj := fun i h st b hb => by
    have e : b = it := by simpa using hb
    subst e
    obtain ⟨o, e, c, d⟩ := st
    exact ⟨o, e, fun v z => by rw [d] at z; cases z⟩
  keep := fun i h h' st k => st.at fun o e => k it (by simp) o e
  item := by
    intro X hP hw hK hc i pins s σ H E I hf st hg
    subst hP hw hK
    obtain ⟨xs, x, hq, hx⟩ := hg
    obtain ⟨its, rv, p, hz⟩ := I.tuple hq
    obtain ⟨u, hu, ru⟩ := rv.get hx
    obtain ⟨f0, f1, f2, f3, f4, f5⟩ := hf it (by simp)
    refine wpAny_pyNext_tuple_item st (show s.heap.IsTuple a its.toArray from p) (x := u) (by simpa using hu) fun h' st' sb => ?_
    have I1 : Inv X pins σ H { s with heap := h' } := I.turned (t' := s.toks) (fun b o hb e => (sb.2 b hb).trans e) f0 f1 f3 f4 f5
    obtain ⟨o, e, c, d⟩ := id st'
    exact ⟨u, rfl, go_of (s := { s with heap := h' }) e c d (by decide) ⟨x, H, I1, ru, ⟨rfl, fun ys hy => by rw [I.tuple_inj hy hq]; exact hx⟩, st', fun b hb => (hf b hb).1⟩⟩
  done := by
    intro X hP hw hK hc i pins s σ H E I hf st hg
    subst hP hw hK
    obtain ⟨xs, hq, hx⟩ := hg
    obtain ⟨its, rv, p, hz⟩ := I.tuple hq
    obtain ⟨f0, f1, f2, f3, f4, f5⟩ := hf it (by simp)
    have hl := rv.length
    exact wpAny_pyNext_tuple_end (I.ok.hd hc) st (show s.heap.IsTuple a its.toArray from p) (by simp; omega) fun h' eb => ⟨rfl, I.turned (t' := s.toks) (fun b o hb e => eb b o hb e) f0 f1 f3 f4 f5⟩
  self := fun _ _ _ _ _ st h => wpAny_pyIter_tupleiter st h
theorem turn_range {P : Program} {w : World} {K : PySem.W.Frag} {tg : Expr} (it : Addr) (lo : Int) (n : Nat) : Turn P w K tg (Itr lo n) [it] it (fun i h => IsRangeIter h it (lo + (i : Nat) * 1) ((n : Int) - (i : Nat)) 1) where
  mem := by simp
  obj := fun i h st b hb => by
    have e : b = it := by simpa using hb
    subst e
    exact ⟨_, st, fun v z => by
      have z' : Data.fields _ = Data.cell v := z
      cases z'⟩
  keep := fun i h h' st k => k it (by simp) _ st
  item := by
    intro X hP hw hK hc i pins s σ H E I hf st hg
    subst hP hw hK
    obtain ⟨f0, f1, f2, f3, f4, f5⟩ := hf it (by simp)
    have W := Walks.range (prog := X.prog) (w := X.w) (I.ok.hd hc) it lo 1 n
    refine W.item i s _ _ hg st fun v h' tk hv st' kk => ?_
    obtain ⟨t, rfl⟩ := hv
    have I1 : Inv X pins σ H { s with heap := h', toks := tk } := I.turned (fun b o hb e => kk b o (by simpa using hb) e) f0 f1 f3 f4 f5
    refine ⟨_, rfl, go_of (s := { s with heap := h', toks := tk }) (n := "range_iterator") st' rfl rfl (by decide) ⟨.int (lo + i), H, I1, ⟨t, ?_⟩, ⟨rfl, rfl⟩, st', fun b hb => (hf b hb).1⟩⟩
    rw [Int.mul_one]
  done := by
    intro X hP hw hK hc i pins s σ H E I hf st hg
    subst hP hw hK
    obtain ⟨f0, f1, f2, f3, f4, f5⟩ := hf it (by simp)
    exact wpAny_pyNext_range_end (I.ok.hd hc) st (by have : n ≤ i := hg; omega) fun h' eb => ⟨rfl, I.turned (t' := s.toks) (fun b o hb e => eb b o hb e) f0 f1 f3 f4 f5⟩
  self := fun _ _ _ _ _ st h => wpAny_pyIter_rangeiter st h
end L2
namespace L2
open PySem PySem.Spec PyProof.Rows
section
variable {X : Cx} {tg : Expr}
def iList (K : PySem.W.Frag) (tl : TE) : TI := fun σ H R => tl σ H fun x H1 => ∃ a, x = .ref a ∧ (∃ xs, SqL K H1 a xs) ∧ R (Itl K a) H1
def iTup (K : PySem.W.Frag) (tl : TE) : TI := fun σ H R => tl σ H fun x H1 => ∃ a, x = .ref a ∧ (∃ xs, SqT K H1 a xs) ∧ R (Itt K a) H1
theorem pi_list {l : Expr} {tl : TE} (hl : PE X l tl) : PI X tg l (iList X.K tl) := by
  intro pins s σ H R I h
  refine thn (hl pins s σ H _ I h) fun v s1 ⟨x, H1, I1, r1, q1⟩ => ?_
  obtain ⟨a, e, ⟨xs, hq⟩, q⟩ := q1
  subst e
  cases r1
  obtain ⟨its, rv, p, hz⟩ := I1.list hq
  refine wpAny_pyIter_list p.isList ?_
  refine ⟨s1.heap.objs.size, [s1.heap.objs.size], _, _, H1, rfl, I1.kept (t' := s1.toks) fun b o e => Heap.get?_push_of_some _ e, turn_list a _, ⟨_, Heap.get?_push_size _ rfl, rfl, rfl⟩, fun b hb => ?_, q⟩
  have e : b = s1.heap.objs.size := by simpa using hb
  subst e
  exact I1.fpOk (Nat.le_refl _) (I1.hok.fresh (Nat.le_refl _))
theorem pi_tup {l : Expr} {tl : TE} (hl : PE X l tl) : PI X tg l (iTup X.K tl) := by
  intro pins s σ H R I h
  refine thn (hl pins s σ H _ I h) fun v s1 ⟨x, H1, I1, r1, q1⟩ => ?_
  obtain ⟨a, e, ⟨xs, hq⟩, q⟩ := q1
  subst e
  cases r1
  obtain ⟨its, rv, p, hz⟩ := I1.tuple hq
  refine wpAny_pyIter_tuple (show s1.heap.IsTuple a its.toArray from p) ?_
  refine ⟨s1.heap.objs.size, [s1.heap.objs.size], _, _, H1, rfl, I1.kept (t' := s1.toks) fun b o e => Heap.get?_push_of_some _ e, turn_tuple a _, ⟨_, Heap.get?_push_size _ rfl, rfl, rfl⟩, fun b hb => ?_, q⟩
  have e : b = s1.heap.objs.size := by simpa using hb
  subst e
  exact I1.fpOk (Nat.le_refl _) (I1.hok.fresh (Nat.le_refl _))
theorem range_it {pins : List (Addr × Obj)} {σ : St} {H : Hp} {s : Shared} {R : It → Hp → Prop} {E : Value → Shared → Prop} {lo hi : Int} {t u v : Tok} {tk : Nat} (I : Inv X pins σ H s) (h1 : -(2 ^ 62) ≤ lo) (h2 : lo < 2 ^ 62) (h3 : -(2 ^ 62) ≤ hi) (h4 : hi < 2 ^ 62)
    (q : R (Itr lo (hi - lo).toNat) H) : wpAny (model X.prog X.w) X.A (pyIter (.ref s.heap.objs.size)) (PIE X pins σ tg R) E { s with heap := s.heap.push { cls := .type "range", data := .fields #[.int lo t, .int hi u, .int 1 v] }, toks := tk } := by
  refine wpAny_pyIter_range (IsRange.new ..) (small_one h1 h2 h3 h4) ?_
  have I1 : Inv X pins σ H { s with heap := s.heap.push { cls := .type "range", data := .fields #[.int lo t, .int hi u, .int 1 v] }, toks := tk } := I.kept fun b o e => Heap.get?_push_of_some _ e
  refine ⟨(s.heap.push { cls := .type "range", data := .fields #[.int lo t, .int hi u, .int 1 v] }).objs.size, [(s.heap.push { cls := .type "range", data := .fields #[.int lo t, .int hi u, .int 1 v] }).objs.size], _, _, H, rfl,
    I1.kept (t' := tk) fun b o e => Heap.get?_push_of_some _ e, turn_range _ lo (hi - lo).toNat, ?_, fun b hb => ?_, q⟩
  · have e1 : lo + ((0 : Nat) : Int) * 1 = lo := by simp
    have e2 : (((hi - lo).toNat : Nat) : Int) - ((0 : Nat) : Int) = Builtin.Range.rangeSize lo hi 1 := by rw [rangeSize_one]; split <;> omega
    show IsRangeIter _ _ (lo + ((0 : Nat) : Int) * 1) ((((hi - lo).toNat : Nat) : Int) - ((0 : Nat) : Int)) 1
    rw [e1, e2]
    exact Heap.get?_push_size _ rfl
  · have e : b = (s.heap.push { cls := .type "range", data := .fields #[.int lo t, .int hi u, .int 1 v] }).objs.size := by simpa using hb
    subst e
    exact I1.fpOk (Nat.le_refl _) (I1.hok.fresh (Nat.le_refl _))
def iRng1 (ta : TA) : TI := fun σ H R => ta σ H fun vs H1 => ∃ j : Int, vs = [.int j] ∧ -(2 ^ 62) ≤ j ∧ j < 2 ^ 62 ∧ R (Itr 0 j.toNat) H1
theorem pi_range1 {a : Expr} {ta : TA} {p pos : Pos} (hg : Gl X "range") (hm : X.mg "range" = none) (ha : PA X [a] ta) (hs : starEach [a] X.env = [(false, eval a X.env)] := by rfl) : PI X tg (.Call (.Name "range" p) [a] [] pos) (iRng1 ta) := by
  intro pins s σ H R I h
  refine Call_ (ld_blt I hg hm boot_range (PyProof.Rows.callWith_type1 (thn (ha pos pins s σ H _ I h) fun us s1 ⟨vs, H1, I1, r1, q1⟩ => ?_) hs rfl))
  obtain ⟨j, e, q1, q2, q⟩ := q1
  subst e
  cases r1 with
  | cons r rr =>
    cases rr
    obtain ⟨t, rfl⟩ := r
    exact call_range_1 (range_it I1 (by omega) (by omega) q1 q2 (by simpa using q))
def tFor (wi : TI) (g : TG) (tb : TS) : TS := fun D σ H => wi σ H fun J H1 => ∃ W : Nat → Nat → St → Hp → Prop, (∃ m, W 0 m σ H1) ∧ ∀ i m σ H, W i m σ H →
  (J.stop i H ∧ D.nx σ H) ∨ (J.go i H ∧ ∃ N : St → Hp → Prop, (∀ σ' H', N σ' H' → ∃ m', m' < m ∧ W (i + 1) m' σ' H') ∧ ∀ x H', J.yld i H x H' → g x σ H' fun σ2 H2 => tb { D with nx := N, ct := N, bk := D.nx } σ2 H2)
def pinsAt (fp : List Addr) (h : Heap) : List (Addr × Obj) := fp.filterMap fun b => (h.get? b).map fun o => (b, o)
theorem mem_pinsAt {fp : List Addr} {h : Heap} {b : Addr} {o : Obj} (hb : b ∈ fp) (e : h.get? b = some o) : (b, o) ∈ pinsAt fp h := List.mem_filterMap.mpr ⟨b, hb, by rw [e]; rfl⟩
theorem of_pinsAt {fp : List Addr} {h : Heap} {p : Addr × Obj} (hp : p ∈ pinsAt fp h) : p.1 ∈ fp ∧ h.get? p.1 = some p.2 := by
  obtain ⟨b, hb, e⟩ := List.mem_filterMap.mp hp
  cases q : h.get? b with
  | none => rw [q] at e; cases e
  | some o =>
    rw [q] at e
    have e' : (b, o) = p := Option.some.inj e
    subst e'
    exact ⟨hb, q⟩
theorem Inv.pinned {pins : List (Addr × Obj)} {σ : St} {H : Hp} {s : Shared} {fp : List Addr} (I : Inv X pins σ H s) (hf : ∀ b ∈ fp, FpOk X pins H b) (ho : ∀ b ∈ fp, ∃ o, s.heap.get? b = some o ∧ ∀ v, o.data ≠ .cell v) : Inv X (pins ++ pinsAt fp s.heap) σ H s :=
  I.pins_of fun p hp => (List.mem_append.mp hp).elim (fun z => I.pin p (List.mem_append_right _ z)) fun z => by
    obtain ⟨hb, e⟩ := of_pinsAt z
    obtain ⟨f0, f1, f2, _⟩ := hf p.1 hb
    obtain ⟨o, e', d⟩ := ho p.1 hb
    rw [e] at e'; cases e'
    exact ⟨e, f0, f1, f2, d⟩
theorem Inv.unpinned {pins pl : List (Addr × Obj)} {σ : St} {H : Hp} {s : Shared} (I : Inv X (pins ++ pl) σ H s) : Inv X pins σ H s := I.pins_of fun p hp => I.pin p (List.mem_append_right _ (List.mem_append_left _ hp))
theorem ps_for {iter : Expr} {body : List Stmt} {wi : TI} {g : TG} {tb : TS} {pos : Pos} (hp : PassesOwn (model X.prog X.w) X.A X.env X.xe) (hc : X.calm = true) (hi : PI X tg iter wi) (hg : PG X tg g) (hb : PSs X body tb)
    (hs : ∀ x, foldedSetIterable iter X.env x = pure x := by intro _; rfl) : PS X (.For tg iter body [] pos) (tFor wi g tb) := by
  intro pins s σ H D I h
  refine wpAny_For (thn (hi pins s σ H _ I h) fun v s1 h1 => thn h1 fun itv s2 h2 => ?_) hs
  obtain ⟨it, fp, tn, J, H2, e, I2, T, st2, f2, W, ⟨m0, w0⟩, turn⟩ := h2
  subst e
  have stat : ∀ {H' : Hp}, (∀ b ∈ fp, H' b = none) → ∀ b ∈ fp, FpOk X pins H' b := fun hn b hb => ⟨hn b hb, (f2 b hb).2⟩
  refine codeAny_forLoop_any (fun n s' => ∃ i σ' H', Inv X pins σ' H' s' ∧ tn i s'.heap ∧ (∀ b ∈ fp, H' b = none) ∧ W i n σ' H') ?_ m0 ⟨0, σ, H2, I2, st2, fun b hb => (f2 b hb).1, w0⟩
  rintro n s3 ⟨i, σ3, H3, I3, st3, fr3, w3⟩
  rcases turn i n σ3 H3 w3 with ⟨stop, qn⟩ | ⟨go, N, hN, step⟩
  · refine wpAny_passesOwn hp (thn (T.done X rfl rfl rfl hc i pins s3 σ3 H3 X.xe I3 (stat fr3) st3 stop) fun r s4 ⟨hr, I4⟩ => ?_)
    subst hr
    exact wpAny_execs_nil ⟨σ3, H3, I4, qn⟩
  · refine wpAny_passesOwn hp (thn (T.item X rfl rfl rfl hc i pins s3 σ3 H3 X.xe I3 (stat fr3) st3 go) fun r s4 ⟨u, hr, h4⟩ => ?_)
    subst hr
    refine wpAny_passesOwn hp (thn h4 fun _ s5 ⟨x, H5, I5, r5, y5, st5, fr5⟩ => ?_)
    have I5' := I5.pinned (stat fr5) (T.obj _ _ st5)
    refine wpAny_passesOwn hp (thn (hg _ s5 σ3 H5 x u _ I5' r5 (step x H5 y5)) fun _ s6 ⟨σ6, H6, I6, q6⟩ => ?_)
    refine wpAny_passesOwn hp (thn (hb _ s6 σ6 H6 _ I6 q6) fun f s7 q7 => ?_)
    have again : ∀ {σ7 : St} {H7 : Hp}, Inv X (pins ++ pinsAt fp s5.heap) σ7 H7 s7 → N σ7 H7 → ∃ m, m < n ∧ ∃ i σ' H', Inv X pins σ' H' s7 ∧ tn i s7.heap ∧ (∀ b ∈ fp, H' b = none) ∧ W i m σ' H' := fun {σ7 H7} I7 n7 => by
      obtain ⟨m', hm, w7⟩ := hN σ7 H7 n7
      refine ⟨m', hm, i + 1, σ7, H7, I7.unpinned, T.keep _ _ _ st5 fun b hb o e => (I7.pin (b, o) (List.mem_append_right _ (List.mem_append_right _ (mem_pinsAt hb e)))).1, fun b hb => ?_, w7⟩
      obtain ⟨o, e, d⟩ := T.obj _ _ st5 b hb
      exact (I7.pin (b, o) (List.mem_append_right _ (List.mem_append_right _ (mem_pinsAt hb e)))).2.1
    cases f with
    | next => obtain ⟨σ7, H7, I7, n7⟩ := q7; exact again I7 n7
    | cont => obtain ⟨σ7, H7, I7, n7⟩ := q7; exact again I7 n7
    | brk => obtain ⟨σ7, H7, I7, q7⟩ := q7; exact ⟨σ7, H7, I7.unpinned, q7⟩
    | ret v => obtain ⟨x7, σ7, H7, I7, r7, q7⟩ := q7; exact ⟨x7, σ7, H7, I7.unpinned, r7, q7⟩
end
end L2
namespace L2
open PySem PySem.Spec PyProof.Rows
abbrev R2 := V → V → Hp → VK → Prop
def OpR (X : Cx) (f : Value → Value → Sem Value) (r : R2) : Prop :=
  ∀ (pins : List (Addr × Obj)) (s : Shared) (σ : St) (H : Hp) (x y : V) (v u : Value) (Q : VK), Inv X pins σ H s → RelV x v → RelV y u → r x y H Q →
    wpAny (model X.prog X.w) X.A (f v u) (EP X pins σ Q) X.xe s
def UnR (X : Cx) (f : Value → Sem Value) (r : V → Hp → VK → Prop) : Prop :=
  ∀ (pins : List (Addr × Obj)) (s : Shared) (σ : St) (H : Hp) (x : V) (v : Value) (Q : VK), Inv X pins σ H s → RelV x v → r x H Q →
    wpAny (model X.prog X.w) X.A (f v) (EP X pins σ Q) X.xe s
def CallR (X : Cx) (f : Value) (r : List V → Hp → VK → Prop) : Prop :=
  ∀ (pins : List (Addr × Obj)) (s : Shared) (σ : St) (H : Hp) (xs : List V) (us : List Value) (Q : VK), Inv X pins σ H s → Vals xs us → r xs H Q →
    wpAny (model X.prog X.w) X.A (call f us) (EP X pins σ Q) X.xe s
def TruR (X : Cx) (r : V → Hp → (Bool → Hp → Prop) → Prop) : Prop :=
  ∀ (pins : List (Addr × Obj)) (s : Shared) (σ : St) (H : Hp) (x : V) (v : Value) (Q : Bool → Hp → Prop), Inv X pins σ H s → RelV x v → r x H Q →
    wpAny (model X.prog X.w) X.A (truthy v) (TP X pins σ Q) X.xe s
def tOp (r : R2) (ta tb : TE) : TE := fun σ H Q => ta σ H fun x H1 => tb σ H1 fun y H2 => r x y H2 Q
def rI (C : Int → Int → Prop) (g : Int → Int → V) : R2 := fun x y H Q => ∃ i j, x = .int i ∧ y = .int j ∧ C i j ∧ Q (g i j) H
def rI0 (g : Int → Int → V) : R2 := fun x y H Q => ∃ i j, x = .int i ∧ y = .int j ∧ Q (g i j) H
def rU (g : Int → V) : V → Hp → VK → Prop := fun x H Q => ∃ i, x = .int i ∧ Q (g i) H
section
variable {X : Cx} {a b c : Expr} {ta tb tc : TE} {pos : Pos}
theorem binT (ha : PE X a ta) (hb : PE X b tb) {pins : List (Addr × Obj)} {s : Shared} {σ : St} {H : Hp} {R : V → V → Hp → Prop} (I : Inv X pins σ H s)
    (h : ta σ H fun x H1 => tb σ H1 fun y H2 => R x y H2) {Q : Value → Shared → Prop} {f : Value → Value → Sem Value}
    (hf : ∀ v u s2 x y H2, Inv X pins σ H2 s2 → RelV x v → RelV y u → R x y H2 → wpAny (model X.prog X.w) X.A (f v u) Q X.xe s2) :
    wpAny (model X.prog X.w) X.A (eval a X.env) (fun v s₁ => wpAny (model X.prog X.w) X.A (eval b X.env) (fun u s₂ => wpAny (model X.prog X.w) X.A (f v u) Q X.xe s₂) X.xe s₁) X.xe s := by
  refine thn (ha pins s σ H _ I h) fun v s1 ⟨x, H1, I1, r1, q1⟩ => ?_
  refine thn (hb pins s1 σ H1 _ I1 q1) fun u s2 ⟨y, H2, I2, r2, q2⟩ => ?_
  exact hf v u s2 x y H2 I2 r1 r2 q2
theorem pe_op {op : Operator} {r : R2} (ho : OpR X (binaryOp op) r) (ha : PE X a ta) (hb : PE X b tb) : PE X (.BinOp a op b pos) (tOp r ta tb) := by
  intro pins s σ H Q I h
  exact wpAny_BinOp (binT ha hb I h fun v u s2 x y H2 I2 rx ry q => ho pins s2 σ H2 x y v u Q I2 rx ry q)
theorem opI {f : Value → Value → Sem Value} {C : Int → Int → Prop} {g : Int → Int → Int}
    (rule : ∀ (i j : Int) (t u : Tok) (s : Shared) (Q : Value → Shared → Prop) (E : Value → Shared → Prop), C i j → Q (.int (g i j) s.toks) { s with toks := s.toks + 1 } → wpAny (model X.prog X.w) X.A (f (.int i t) (.int j u)) Q E s) :
    OpR X f (rI C fun i j => .int (g i j)) := by
  intro pins s σ H x y v u Q I rx ry h
  obtain ⟨i, j, rfl, rfl, hc, q⟩ := h
  obtain ⟨t, rfl⟩ := rx
  obtain ⟨t', rfl⟩ := ry
  exact rule i j t t' s _ _ hc ⟨.int (g i j), H, I.tok _, ⟨_, rfl⟩, q⟩
theorem opI0 {f : Value → Value → Sem Value} {g : Int → Int → Int}
    (rule : ∀ (i j : Int) (t u : Tok) (s : Shared) (Q : Value → Shared → Prop) (E : Value → Shared → Prop), Q (.int (g i j) s.toks) { s with toks := s.toks + 1 } → wpAny (model X.prog X.w) X.A (f (.int i t) (.int j u)) Q E s) :
    OpR X f (rI0 fun i j => .int (g i j)) := by
  intro pins s σ H x y v u Q I rx ry h
  obtain ⟨i, j, rfl, rfl, q⟩ := h
  obtain ⟨t, rfl⟩ := rx
  obtain ⟨t', rfl⟩ := ry
  exact rule i j t t' s _ _ ⟨.int (g i j), H, I.tok _, ⟨_, rfl⟩, q⟩
theorem opB0 {f : Value → Value → Sem Value} {g : Int → Int → Bool}
    (rule : ∀ (i j : Int) (t u : Tok) (s : Shared) (Q : Value → Shared → Prop) (E : Value → Shared → Prop), Q (.bool (g i j)) s → wpAny (model X.prog X.w) X.A (f (.int i t) (.int j u)) Q E s) :
    OpR X f (rI0 fun i j => .bl (g i j)) := by
  intro pins s σ H x y v u Q I rx ry h
  obtain ⟨i, j, rfl, rfl, q⟩ := h
  obtain ⟨t, rfl⟩ := rx
  obtain ⟨t', rfl⟩ := ry
  exact rule i j t t' s _ _ ⟨.bl (g i j), H, I, rfl, q⟩
def CDiv (i j : Int) : Prop := 0 < j ∧ j < 1073741824
def CPow (i j : Int) : Prop := 0 ≤ j ∧ j ≤ 1000000 ∧ i.natAbs < 2 ^ 64
def CMul (i j : Int) : Prop := (-(2 ^ 64) < i ∧ i < 2 ^ 64) ∨ (-(2 ^ 64) < j ∧ j < 2 ^ 64)
theorem CMul.ok {i j : Int} (h : CMul i j) : IntMulOk i j := by
  rcases h with ⟨h1, h2⟩ | ⟨h1, h2⟩
  · exact .of_left (intBits_le_64 h1 h2)
  · exact .of_right (intBits_le_64 h1 h2)
theorem op_add : OpR X (binaryOp .Add) (rI0 fun i j => .int (i + j)) := opI0 fun _ _ _ _ _ _ _ q => add_int q
theorem op_mul : OpR X (binaryOp .Mult) (rI CMul fun i j => .int (i * j)) := opI fun _ _ _ _ _ _ _ hc q => mul_int q hc.ok
theorem op_fdiv : OpR X (binaryOp .FloorDiv) (rI CDiv fun i j => .int (i / j)) := opI fun i j _ _ _ _ _ hc q => by
  have h1 : (0 : Int) < j := hc.1
  have h2 : j < 1073741824 := hc.2
  exact floordiv_int (by omega) (by rw [Int.fdiv_eq_ediv_of_nonneg i (by omega)]; exact q) (.inl (PyProof.noPylong_small (by omega)))
theorem op_mod : OpR X (binaryOp .Mod) (rI (fun _ j => 0 < j) fun i j => .int (i % j)) := opI fun i j _ _ _ _ _ hc q => by
  have h1 : (0 : Int) < j := hc
  exact mod_int' (by omega) (by rw [Int.fmod_eq_emod_of_nonneg i (by omega)]; exact q)
theorem op_pow : OpR X (binaryOp .Pow) (rI CPow fun i j => .int (i ^ j.toNat)) := opI fun _ _ _ _ _ _ _ hc q => pow_int_small hc.1 hc.2.1 hc.2.2 q
theorem unI {f : Value → Sem Value} {g : Int → Int}
    (rule : ∀ (i : Int) (t : Tok) (s : Shared) (Q : Value → Shared → Prop) (E : Value → Shared → Prop), Q (.int (g i) s.toks) { s with toks := s.toks + 1 } → wpAny (model X.prog X.w) X.A (f (.int i t)) Q E s) :
    UnR X f (rU fun i => .int (g i)) := by
  intro pins s σ H x v Q I rx h
  obtain ⟨i, rfl, q⟩ := h
  obtain ⟨t, rfl⟩ := rx
  exact rule i t s _ _ ⟨.int (g i), H, I.tok _, ⟨_, rfl⟩, q⟩
theorem op_add_ib : OpR X (binaryOp .Add) (fun x y H Q => ∃ i k, x = .int i ∧ y = .bl k ∧ Q (.int (i + b2i k)) H) := by
  intro pins s σ H x y v u Q I rx ry h
  obtain ⟨i, k, rfl, rfl, q⟩ := h
  obtain ⟨t, rfl⟩ := rx
  cases ry
  exact add_int_bool ⟨.int (i + b2i k), H, I.tok _, ⟨_, rfl⟩, q⟩
end
def scal : V → V → Bool
  | .non, .non => true | .non, .int _ => true | .int _, .non => true | .non, .bl _ => true | .bl _, .non => true | .non, .str _ => true | .str _, .non => true
  | .int _, .int _ => true | .bl _, .bl _ => true | .str _, .str _ => true | .byt _, .byt _ => true
  | .int _, .str _ => true | .str _, .int _ => true | .bl _, .str _ => true | .str _, .bl _ => true
  | _, _ => false
def rEq : R2 := fun x y H Q => scal x y = true ∧ Q (.bl (decide (x = y))) H
def rNe : R2 := fun x y H Q => scal x y = true ∧ Q (.bl (!decide (x = y))) H
theorem dec_int {i j : Int} : decide (V.int i = V.int j) = (i == j) := by
  rw [Bool.eq_iff_iff]
  simp
theorem dec_bl {i j : Bool} : decide (V.bl i = V.bl j) = (i == j) := by
  rw [Bool.eq_iff_iff]
  simp
theorem dec_str {i j : Str} : decide (V.str i = V.str j) = (i == j) := by
  rw [Bool.eq_iff_iff]
  simp
theorem dec_byt {i j : Array UInt8} : decide (V.byt i = V.byt j) = (i.toList == j.toList) := by
  rw [Bool.eq_iff_iff]
  cases i
  cases j
  simp
section
variable {X : Cx} {a b c : Expr} {ta tb tc : TE} {pos : Pos}
theorem fin_bl {pins : List (Addr × Obj)} {σ : St} {H : Hp} {s : Shared} {Q : VK} {k k' : Bool} (I : Inv X pins σ H s) (q : Q (.bl k) H) (e : k = k') : EP X pins σ Q (.bool k') s := by
  subst e
  exact ⟨.bl k, H, I, rfl, q⟩
theorem op_eq : OpR X (compareOp .Eq) rEq := by
  intro pins s σ H x y v u Q I rx ry h
  obtain ⟨hs, q⟩ := h
  cases x with
  | non =>
    cases rx
    cases y with
    | non => cases ry; exact PySem.EqNone.eq_none_none (fin_bl I q (by simp))
    | bl j => cases ry; exact PySem.EqNone.eq_none_bool (fin_bl I q (by simp))
    | int j => obtain ⟨t', rfl⟩ := ry; exact PySem.EqNone.eq_none_int (fin_bl I q (by simp))
    | str j => obtain ⟨t', rfl⟩ := ry; exact PySem.EqNone.eq_none_str (fin_bl I q (by simp))
    | _ => exact absurd (show false = true from hs) Bool.false_ne_true
  | bl i =>
    cases rx
    cases y with
    | non => cases ry; exact PySem.EqNone.eq_bool_none (fin_bl I q (by simp))
    | bl j => cases ry; exact eq_bool (fin_bl I q dec_bl)
    | str j => obtain ⟨t', rfl⟩ := ry; exact PySem.EqMixed.eq_bool_str (fin_bl I q (by simp))
    | _ => exact absurd (show false = true from hs) Bool.false_ne_true
  | int i =>
    obtain ⟨t, rfl⟩ := rx
    cases y with
    | non => cases ry; exact PySem.EqNone.eq_int_none (fin_bl I q (by simp))
    | int j => obtain ⟨t', rfl⟩ := ry; exact eq_int (fin_bl I q dec_int)
    | str j => obtain ⟨t', rfl⟩ := ry; exact PySem.EqMixed.eq_int_str (fin_bl I q (by simp))
    | _ => exact absurd (show false = true from hs) Bool.false_ne_true
  | str i =>
    obtain ⟨t, rfl⟩ := rx
    cases y with
    | non => cases ry; exact PySem.EqNone.eq_str_none (fin_bl I q (by simp))
    | bl j => cases ry; exact PySem.EqMixed.eq_str_bool (fin_bl I q (by simp))
    | int j => obtain ⟨t', rfl⟩ := ry; exact PySem.EqMixed.eq_str_int (fin_bl I q (by simp))
    | str j => obtain ⟨t', rfl⟩ := ry; exact eq_str (fin_bl I q dec_str)
    | _ => exact absurd (show false = true from hs) Bool.false_ne_true
  | byt i =>
    obtain ⟨t, rfl⟩ := rx
    cases y with
    | byt j => obtain ⟨t', rfl⟩ := ry; exact PySem.W.eq_bytes (fin_bl I q dec_byt)
    | _ => exact absurd (show false = true from hs) Bool.false_ne_true
  | _ => cases y <;> exact absurd (show false = true from hs) Bool.false_ne_true
theorem op_ne : OpR X (compareOp .NotEq) rNe := by
  intro pins s σ H x y v u Q I rx ry h
  obtain ⟨hs, q⟩ := h
  cases x with
  | non =>
    cases rx
    cases y with
    | non => cases ry; exact PySem.EqNone.ne_none_none (fin_bl I q (by simp))
    | bl j => cases ry; exact PySem.EqNone.ne_none_bool (fin_bl I q (by simp))
    | int j => obtain ⟨t', rfl⟩ := ry; exact PySem.EqNone.ne_none_int (fin_bl I q (by simp))
    | str j => obtain ⟨t', rfl⟩ := ry; exact PySem.EqNone.ne_none_str (fin_bl I q (by simp))
    | _ => exact absurd (show false = true from hs) Bool.false_ne_true
  | bl i =>
    cases rx
    cases y with
    | non => cases ry; exact PySem.EqNone.ne_bool_none (fin_bl I q (by simp))
    | bl j => cases ry; exact ne_bool (fin_bl I q (congrArg not dec_bl))
    | str j => obtain ⟨t', rfl⟩ := ry; exact PySem.EqMixed.ne_bool_str (fin_bl I q (by simp))
    | _ => exact absurd (show false = true from hs) Bool.false_ne_true
  | int i =>
    obtain ⟨t, rfl⟩ := rx
    cases y with
    | non => cases ry; exact PySem.EqNone.ne_int_none (fin_bl I q (by simp))
    | int j => obtain ⟨t', rfl⟩ := ry; exact ne_int (fin_bl I q (congrArg not dec_int))
    | str j => obtain ⟨t', rfl⟩ := ry; exact PySem.EqMixed.ne_int_str (fin_bl I q (by simp))
    | _ => exact absurd (show false = true from hs) Bool.false_ne_true
  | str i =>
    obtain ⟨t, rfl⟩ := rx
    cases y with
    | non => cases ry; exact PySem.EqNone.ne_str_none (fin_bl I q (by simp))
    | bl j => cases ry; exact PySem.EqMixed.ne_str_bool (fin_bl I q (by simp))
    | int j => obtain ⟨t', rfl⟩ := ry; exact PySem.EqMixed.ne_str_int (fin_bl I q (by simp))
    | str j => obtain ⟨t', rfl⟩ := ry; exact ne_str (fin_bl I q (congrArg not dec_str))
    | _ => exact absurd (show false = true from hs) Bool.false_ne_true
  | byt i =>
    obtain ⟨t, rfl⟩ := rx
    cases y with
    | byt j => obtain ⟨t', rfl⟩ := ry; exact PySem.W.ne_bytes (fin_bl I q (congrArg not dec_byt))
    | _ => exact absurd (show false = true from hs) Bool.false_ne_true
  | _ => cases y <;> exact absurd (show false = true from hs) Bool.false_ne_true
theorem op_lt : OpR X (compareOp .Lt) (rI0 fun i j => .bl (decide (i < j))) := opB0 fun _ _ _ _ _ _ _ q => lt_int q
theorem op_gt : OpR X (compareOp .Gt) (rI0 fun i j => .bl (decide (j < i))) := opB0 fun _ _ _ _ _ _ _ q => gt_int q
theorem nomark (b : Expr) {op : CmpOp} (h : op ≠ .In := by decide) (h2 : op ≠ .NotIn := by decide) : behindInMarks op b = false := by
  have e1 : (op == CmpOp.In) = false := by cases op <;> first | rfl | exact absurd rfl h
  have e2 : (op == CmpOp.NotIn) = false := by cases op <;> first | rfl | exact absurd rfl h2
  cases b <;> simp [behindInMarks, e1, e2]
theorem pe_cmpR {op : CmpOp} {r : R2} (ho : OpR X (compareOp op) r) (ha : PE X a ta) (hb : PE X b tb) (hm : behindInMarks op b = false) : PE X (.Compare a [op] [b] pos) (tOp r ta tb) := by
  intro pins s σ H Q I h
  exact wpAny_Compare1 (binT ha hb I h fun v u s2 x y H2 I2 rx ry q => ho pins s2 σ H2 x y v u Q I2 rx ry q) hm
def tTest (t : TE) : TT := fun σ H Q => t σ H fun x H' => ∃ k, x = .bl k ∧ Q k H'
theorem pt_cmpR {op : CmpOp} {r : R2} (ho : OpR X (compareOp op) r) (ha : PE X a ta) (hb : PE X b tb) (hm : behindInMarks op b = false) : PT X (.Compare a [op] [b] pos) (tTest (tOp r ta tb)) := by
  intro pins s σ H Q I h
  refine wpAny_isTrue_Compare1 (thn (ha pins s σ H _ I h) fun v s1 ⟨x, H1, I1, r1, q1⟩ => thn (hb pins s1 σ H1 _ I1 q1) fun u s2 ⟨y, H2, I2, r2, q2⟩ =>
    thn (ho pins s2 σ H2 x y v u _ I2 r1 r2 q2) fun c s3 ⟨z, H3, I3, r3, k, e, q3⟩ => ?_) hm
  subst e
  cases r3
  exact wpAny_truthy_bool ⟨H3, I3, q3⟩
def TruV (K : PySem.W.Frag) (x : V) (H : Hp) (k : Bool) : Prop :=
  match x with
  | .non => k = false
  | .bl b => k = b
  | .int i => k = (i != 0)
  | .str y => y.length ≤ sizeLine ∧ k = ((y.length : Int) != 0)
  | .byt y => y.size ≤ sizeLine ∧ k = ((y.size : Int) != 0)
  | .ref p => (∃ xs, SqL K H p xs ∧ k = !xs.isEmpty) ∨ (∃ xs, SqT K H p xs ∧ k = !xs.isEmpty) ∨ ∃ kvs, H p = some (.dK kvs) ∧ k = !kvs.isEmpty
  | _ => False
theorem isEmpty_kv {κ : Type} {kvs : List (κ × V)} {vs : List (κ × Value)} (r : KV kvs vs) : (!vs.isEmpty) = !kvs.isEmpty := by
  cases r <;> rfl
theorem isEmpty_of {xs : List V} {its : List Value} (r : Vals xs its) : (!its.toArray.isEmpty) = !xs.isEmpty := by
  cases r <;> simp
theorem line63 : (sizeLine : Nat) < 2 ^ 63 := by rw [sizeLine_eq]; decide
theorem tru_ok : TruR X (fun x H Q => ∃ k, TruV X.K x H k ∧ Q k H) := by
  intro pins s σ H x v Q I rx h
  obtain ⟨k, e, q⟩ := h
  have hl := line63
  have hs : sizeLine = 16777216 := sizeLine_eq
  cases x with
  | non =>
    cases rx
    have e' : k = false := e
    subst e'
    exact truthy_none ⟨H, I, q⟩
  | bl b =>
    cases rx
    have e' : k = b := e
    subst e'
    exact wpAny_truthy_bool ⟨H, I, q⟩
  | int i =>
    obtain ⟨t, rfl⟩ := rx
    have e' : k = (i != 0) := e
    subst e'
    exact PySem.P.truthy_int ⟨H, I, q⟩
  | str y =>
    obtain ⟨t, rfl⟩ := rx
    obtain ⟨hy, e'⟩ : y.length ≤ sizeLine ∧ k = ((y.length : Int) != 0) := e
    subst e'
    exact PySem.P.truthy_str (by omega) ⟨H, I.tok _, q⟩
  | byt y =>
    obtain ⟨t, rfl⟩ := rx
    obtain ⟨hy, e'⟩ : y.size ≤ sizeLine ∧ k = ((y.size : Int) != 0) := e
    subst e'
    exact PySem.W.truthy_bytes (by omega) ⟨H, I.tok _, q⟩
  | ref p =>
    cases rx
    have e' : (∃ xs, SqL X.K H p xs ∧ k = !xs.isEmpty) ∨ (∃ xs, SqT X.K H p xs ∧ k = !xs.isEmpty) ∨ ∃ kvs, H p = some (.dK kvs) ∧ k = !kvs.isEmpty := e
    rcases e' with ⟨xs, hx, e'⟩ | ⟨xs, hx, e'⟩ | ⟨kvs, hx, e'⟩
    · subst e'
      obtain ⟨its, r, pl, hz⟩ := I.list hx
      have hlen := r.length
      exact wpAny_truthy_list pl.isList (by simp only [List.size_toArray]; omega) ⟨H, I.tok _, by rw [isEmpty_of r]; exact q⟩
    · subst e'
      obtain ⟨its, r, pl, hz⟩ := I.tuple hx
      have hlen := r.length
      exact truthy_tuple pl (by simp only [List.size_toArray]; omega) ⟨H, I.tok _, by rw [isEmpty_of r]; exact q⟩
    · subst e'
      obtain ⟨hz, hS, vs, r, m⟩ : kvs.length ≤ sizeLine ∧ (p == sysModules) = false ∧ ∃ vs, KV kvs vs ∧ s.heap.DictOf (mixKind X.prog X.w) p vs := I.hok p _ hx
      have hlen : kvs.length = vs.length := Paired.length r
      exact wpAny_truthy_dict hS m (by omega) ⟨H, I.tok _, by rw [isEmpty_kv r]; exact q⟩
  | _ => exact (show False from e).elim
theorem pt_truth (ha : PE X a ta) (he : ∀ whole, isTrue a X.env whole = (do let v ← whole; standAt a.pos; holding [v] (truthy v))) :
    PT X a (fun σ H Q => ta σ H fun x H' => ∃ k, TruV X.K x H' k ∧ Q k H') := by
  intro pins s σ H Q I h
  exact isTrue_plain (thn (ha pins s σ H _ I h) fun v s1 ⟨x, H1, I1, r1, q1⟩ => tru_ok pins s1 σ H1 x v Q I1 r1 q1) (he _)
theorem op_add_str : OpR X (binaryOp .Add) (fun x y H Q => ∃ i j, x = .str i ∧ y = .str j ∧ i.length + j.length ≤ sizeLine ∧ Q (.str (i ++ j)) H) := by
  intro pins s σ H x y v u Q I rx ry h
  obtain ⟨i, j, rfl, rfl, hz, q⟩ := h
  obtain ⟨t, rfl⟩ := rx
  obtain ⟨t', rfl⟩ := ry
  exact add_str (fun t' tk => ⟨.str (i ++ j), H, I.tok _, ⟨_, rfl⟩, q⟩) hz
theorem vals1 {x : V} {us : List Value} (r : Vals [x] us) : ∃ u, us = [u] ∧ RelV x u := by
  cases r with
  | cons r1 r2 => cases r2; exact ⟨_, rfl, r1⟩
theorem vals2 {x y : V} {us : List Value} (r : Vals [x, y] us) : ∃ u w', us = [u, w'] ∧ RelV x u ∧ RelV y w' := by
  cases r with
  | cons r1 r2 =>
    cases r2 with
    | cons r3 r4 => cases r4; exact ⟨_, _, rfl, r1, r3⟩
theorem call_int1 : CallR X (.type "int") (fun xs H Q => (∃ i, xs = [.int i] ∧ Q (.int i) H) ∨ ∃ k, xs = [.bl k] ∧ Q (.int (if k then 1 else 0)) H) := by
  intro pins s σ H xs us Q I r h
  rcases h with ⟨i, rfl, q⟩ | ⟨k, rfl, q⟩
  · obtain ⟨u, rfl, t, rfl⟩ := vals1 r
    exact call_int_int ⟨.int i, H, I, ⟨_, rfl⟩, q⟩
  · obtain ⟨u, rfl, r1⟩ := vals1 r
    cases r1
    exact call_int_bool ⟨.int (if k then 1 else 0), H, I.tok _, ⟨_, rfl⟩, q⟩
def LenV (K : PySem.W.Frag) (x : V) (H : Hp) (n : Nat) : Prop :=
  match x with
  | .str y => y.length ≤ sizeLine ∧ n = y.length
  | .byt y => y.size ≤ sizeLine ∧ n = y.size
  | .ref p => (∃ xs, SqL K H p xs ∧ n = xs.length) ∨ ∃ xs, SqT K H p xs ∧ n = xs.length
  | _ => False
theorem call_len : CallR X (.builtin "len") (fun xs H Q => ∃ x n, xs = [x] ∧ LenV X.K x H n ∧ Q (.int n) H) := by
  intro pins s σ H xs us Q I r h
  obtain ⟨x, n, rfl, e, q⟩ := h
  obtain ⟨u, rfl, rx⟩ := vals1 r
  have hl := line63
  have hs : sizeLine = 16777216 := sizeLine_eq
  cases x with
  | str y =>
    obtain ⟨t, rfl⟩ := rx
    obtain ⟨hy, e'⟩ : y.length ≤ sizeLine ∧ n = y.length := e
    subst e'
    exact len_str (by omega) ⟨.int _, H, I.tok _, ⟨_, rfl⟩, q⟩
  | byt y =>
    obtain ⟨t, rfl⟩ := rx
    obtain ⟨hy, e'⟩ : y.size ≤ sizeLine ∧ n = y.size := e
    subst e'
    exact PySem.W.len_bytes (by omega) ⟨.int _, H, I.tok _, ⟨_, rfl⟩, q⟩
  | ref p =>
    cases rx
    have e' : (∃ xs, SqL X.K H p xs ∧ n = xs.length) ∨ ∃ xs, SqT X.K H p xs ∧ n = xs.length := e
    rcases e' with ⟨xs, hx, e'⟩ | ⟨xs, hx, e'⟩
    · subst e'
      obtain ⟨its, r', pl, hz⟩ := I.list hx
      have hlen := r'.length
      exact Calls.call_len_list pl.isList (by simp only [List.size_toArray]; omega) ⟨.int xs.length, H, I.tok _, ⟨_, by simp only [List.size_toArray]; rw [hlen]⟩, q⟩
    · subst e'
      obtain ⟨its, r', pl, hz⟩ := I.tuple hx
      have hlen := r'.length
      exact len_tuple pl (by simp only [List.size_toArray]; omega) ⟨.int xs.length, H, I.tok _, ⟨_, by simp only [List.size_toArray]; rw [hlen]⟩, q⟩
  | _ => exact (show False from e).elim
end
end L2
namespace L2
open PySem PySem.Spec PyProof.Rows
structure ObjM (h : Heap) (x dx C : Addr) (mA : Str → Option Value) : Prop where
  obj : h.get? x = some (PySem.W.instObj C dx)
  ns : h.Ns1 dx mA
  ne : dx ≠ x
theorem lookIn_ns {h : Heap} {dx : Addr} {mA : Str → Option Value} (n : h.Ns1 dx mA) : ∃ od, h.get? dx = some od ∧ ∀ name, PySem.W.lookIn name od = some (mA name) := by
  obtain ⟨o, es, ep, ho, hd, hk, _, hm⟩ := n
  refine ⟨o, ho, fun name => ?_⟩
  have e := hm name
  unfold nsFind findBy at e
  rw [← Array.find?_toList] at e
  unfold PySem.W.lookIn
  rw [hd]
  dsimp only
  split
  · rename_i y q
    rw [q] at e
    exact congrArg some e
  · rename_i q
    rw [q] at e
    have a : es.toList.any (·.refKey) = false := by
      rw [List.any_eq_false]
      intro y hy
      obtain ⟨z, t, hkey⟩ := hk y (Array.mem_toList_iff.mp hy)
      simp [DictEntry.refKey, hkey]
    have a' : ¬ es.toList.any (·.refKey) = true := by rw [a]; exact Bool.false_ne_true
    rw [if_neg a']
    exact congrArg some e
theorem ObjM.look {h : Heap} {x dx C : Addr} {mA : Str → Option Value} (I : ObjM h x dx C mA) : ∃ od, PySem.W.InstAt h x (PySem.W.instObj C dx) C (some od) ∧ ∀ name, PySem.W.lookIn name od = some (mA name) :=
  let ⟨od, ho, hl⟩ := lookIn_ns I.ns
  ⟨od, ⟨I.obj, rfl, rfl, ho⟩, hl⟩
section
variable {prog : Program} {w : World} {A : Around} {E : Value → Shared → Prop} {s : Shared} {K : PySem.W.Frag} {x dx C f : Addr} {mA : Str → Option Value} {name : Str} {v : Value}
theorem get_map {expr : Bool} {Q : Value → Shared → Prop} (X : K.In s.heap) (I : ObjM s.heap x dx C mA) (hg : PySem.W.plainGet K C name = true) (hh : PySem.W.hasDictIn K C = true)
    (ha : PySem.W.findIn K (.ref C) name = some none) (hv : mA name = some v) (hv' : PySem.W.handedIn v = true) (h : Q v { s with toks := s.toks + 1 }) :
    wpAny (model prog w) A (getAttr (.ref x) name expr) Q E s := by
  obtain ⟨od, J, hl⟩ := I.look
  exact PySem.W.get_value X J (PySem.W.plainGet_of hg).1 (PySem.W.findObj_own hh ha rfl (by rw [hl, hv])) hv' h
theorem get_meth {pl : Sem Bool} {Q : Value × List Value → Shared → Prop} (X : K.In s.heap) (I : ObjM s.heap x dx C mA) (hg : PySem.W.plainGet K C name = true)
    (hf : PySem.W.findIn K (.ref C) name = some (some (.ref f))) (ht : PySem.W.isFn K (.ref f) = true) (hv : mA name = none) (h : Q (.ref f, [.ref x]) s) :
    wpAny (model prog w) A (getMethod (.ref x) name pl) Q E s := by
  obtain ⟨od, J, hl⟩ := I.look
  exact PySem.W.method_fn X J (PySem.W.plainGet_of hg).1 (PySem.W.plainGet_of hg).2 hf (beq_iff_eq.mp ht) (by show (PySem.W.lookIn name od).map (·.isSome) = some false; rw [hl, hv]; rfl) h
theorem set_map {ns : List Str} {Q : Unit → Shared → Prop} (X : K.In s.heap) (I : ObjM s.heap x dx C mA)
    (hs : PySem.W.findIn K (.ref C) "__setattr__" = some (some (.builtin "object.__setattr__"))) (hp : PySem.W.plainOver K C = true) (ht : PySem.W.takerIn K C name = some none) (hh : PySem.W.hasDictIn K C = true)
    (hw : PySem.Within mA ns) (hsz : ns.length ≤ sizeLine)
    (h : ∀ h', ObjM h' x dx C (fun y => if y = name then some v else mA y) → Heap.SameBut dx s.heap h' → Q () { s with heap := h', toks := s.toks + 2 }) :
    wpAny (model prog w) A (setAttr (.ref x) name v) Q E s := by
  obtain ⟨od, J, hl⟩ := I.look
  refine PySem.W.set_plain X J hs (PySem.W.osa_open (s := { s with toks := s.toks + 1 }) (r := none) X J hp ht fun b => ?_)
  obtain ⟨cd, hc, hd'⟩ := PySem.W.any_some hh
  have hx : s.heap.get? x = some ⟨.ref C, some dx, .plain, #[]⟩ := I.obj
  refine wpAny_bind (wpAny_pure (wpAny_bind (wpAny_bind (wpAny_loadPart hx (wpAny_bind (PySem.W.Looks.here (s := { s with toks := s.toks + 1 }) (PySem.W.looks_clsIn X hc) ?_))))))
  rw [hd']
  refine wpAny_pure (a := some dx) (wpAny_bind (wpAny_pure (wpAny_bind ?_)))
  refine wpAny_nsSet1 (s := { s with toks := s.toks + 1 }) I.ns fun h' hn2 hs2 => ?_
  obtain ⟨oD, esD, epD, hoD, hdD, hcD⟩ := hn2.count (PySem.Within.cons name v hw)
  refine wpAny_bind (wpAny_lookBehind hoD (by rw [hdD]; exact pastItsLine_dict (Nat.le_trans hcD (by rw [List.length_cons]; omega))) ?_)
  exact wpAny_pure (h _ ⟨(hs2.2 _ (Ne.symm I.ne)).trans I.obj, hn2, I.ne⟩ hs2)
theorem make_map {R : Result → Shared → Prop} {vs : List Value} {kw : List (Str × Value)} (X : K.In s.heap) (hm : PySem.W.makesIn K C = true)
    (hi : PySem.W.findIn K (.ref C) "__init__" = some (some (.ref f))) (hf : PySem.W.typeIn K (.ref f) = some (.type "function"))
    (h : codeAny (model prog w) (A.under (.builtin "type.__call__" ⟨.ref C :: vs, kw⟩)) (.call (.ref f) ⟨.ref (s.heap.objs.size + 1) :: vs, kw⟩) (PySem.W.InitBack (s.heap.objs.size + 1) R)
      { s with heap := (s.heap.push PySem.W.emptyDict).push (PySem.W.instObj C s.heap.objs.size) }) :
    codeAny (model prog w) A (.call (.ref C) ⟨vs, kw⟩) R s := by
  obtain ⟨hh, g, d, t, os⟩ := s
  exact PySem.W.make_core (PySem.W.makes_of X hm) (PySem.W.looks_findIn X hi) (fun self => PySem.W.bind_fn X self hf) (.inl rfl) h
end
def putF (f : Str) (v : V) : List (Str × V) → List (Str × V)
  | [] => [(f, v)]
  | (g, x) :: r => if g = f then (g, v) :: r else (g, x) :: putF f v r
theorem lookup_putF (f g : Str) (v : V) : ∀ fs : List (Str × V), (putF f v fs).lookup g = if g = f then some v else fs.lookup g
  | [] => by
    show List.lookup g [(f, v)] = _
    by_cases h : g = f
    · have hb : (g == f) = true := beq_iff_eq.mpr h
      simp only [List.lookup, hb, if_pos h]
    · have hb : (g == f) = false := beq_eq_false_iff_ne.mpr h
      simp only [List.lookup, hb, if_neg h]
  | (k, x) :: r => by
    have ih := lookup_putF f g v r
    rw [show putF f v ((k, x) :: r) = (if k = f then (k, v) :: r else (k, x) :: putF f v r) from rfl]
    by_cases hk : k = f
    · rw [if_pos hk]
      by_cases h : g = k
      · have hb : (g == k) = true := beq_iff_eq.mpr h
        simp only [List.lookup, hb, if_pos (h.trans hk)]
      · have hb : (g == k) = false := beq_eq_false_iff_ne.mpr h
        simp only [List.lookup, hb, if_neg (fun e : g = f => h (e.trans hk.symm))]
    · rw [if_neg hk]
      by_cases h : g = k
      · have hb : (g == k) = true := beq_iff_eq.mpr h
        simp only [List.lookup, hb, if_neg (fun e : g = f => hk (h.symm.trans e))]
      · have hb : (g == k) = false := beq_eq_false_iff_ne.mpr h
        simp only [List.lookup, hb]
        exact ih
theorem keys_putF (f : Str) (v : V) : ∀ fs : List (Str × V), f ∈ (putF f v fs).map (·.1) ∧ ∀ g, g ∈ fs.map (·.1) → g ∈ (putF f v fs).map (·.1)
  | [] => ⟨by simp [putF], fun g h => by simp at h⟩
  | (k, x) :: r => by
    obtain ⟨i1, i2⟩ := keys_putF f v r
    rw [show putF f v ((k, x) :: r) = (if k = f then (k, v) :: r else (k, x) :: putF f v r) from rfl]
    by_cases hk : k = f
    · rw [if_pos hk]
      subst hk
      exact ⟨by simp, fun g h => by simpa using h⟩
    · rw [if_neg hk]
      refine ⟨?_, fun g h => ?_⟩
      · rw [List.map_cons]
        exact List.mem_cons_of_mem _ i1
      · rw [List.map_cons] at h ⊢
        rcases List.mem_cons.mp h with e | e
        · exact List.mem_cons.mpr (.inl e)
        · exact List.mem_cons_of_mem _ (i2 g e)
theorem length_putF (f : Str) (v : V) : ∀ fs : List (Str × V), (putF f v fs).length ≤ fs.length + 1
  | [] => by simp [putF]
  | (k, x) :: r => by
    have ih := length_putF f v r
    rw [show putF f v ((k, x) :: r) = (if k = f then (k, v) :: r else (k, x) :: putF f v r) from rfl]
    by_cases hk : k = f
    · rw [if_pos hk, List.length_cons, List.length_cons]; omega
    · rw [if_neg hk, List.length_cons, List.length_cons]; omega
theorem RelO.some_of {v : V} {o : Option Value} (r : RelO (some v) o) : ∃ u, o = some u ∧ RelV v u := by
  cases o with
  | none => exact (show False from r).elim
  | some u => exact ⟨u, rfl, r⟩
theorem RelO.none_of {o : Option Value} (r : RelO none o) : o = none := by
  cases o with
  | none => rfl
  | some u => exact (show False from r).elim
theorem handed_of {v : V} {u : Value} (r : RelV v u) : PySem.W.handedIn u = true := by
  cases v with
  | non => cases (show u = Value.none from r); rfl
  | bl b => cases (show u = Value.bool b from r); rfl
  | int i => obtain ⟨t, e⟩ := (show ∃ t, u = Value.int i t from r); cases e; rfl
  | str x => obtain ⟨t, e⟩ := (show ∃ t, u = Value.str x t from r); cases e; rfl
  | byt b => obtain ⟨t, e⟩ := (show ∃ t, u = Value.bytes b t from r); cases e; rfl
  | flt b => obtain ⟨t, e⟩ := (show ∃ t, u = Value.float b t from r); cases e; rfl
  | ref a => cases (show u = Value.ref a from r); rfl
  | ty n => cases (show u = Value.type n from r); rfl
section
variable {P : Program} {w : World} {H H' : Hp} {h h' : Heap} {a C dx : Addr} {fs fs' : List (Str × V)}
theorem ins_get (hok : HOk P w H h) (e : H a = some (.ins C dx fs)) : ∃ mA, ObjM h a dx C mA ∧ (∀ f, RelO (fs.lookup f) (mA f)) ∧ PySem.Within mA (fs.map (·.1)) ∧ fs.length ≤ 1000 ∧ H dx = some (.own a) := by
  obtain ⟨d, z, ne, ob, mA, n, r, q⟩ := (show ObjOk P w H h a (.ins C dx fs) from hok a _ e)
  exact ⟨mA, ⟨ob, n, ne⟩, r, q, z, d⟩
end
structure Cls (K : PySem.W.Frag) (C : Addr) : Prop where
  pg : PySem.W.plainGet K C Str.empty = true
  hd : PySem.W.hasDictIn K C = true
  po : PySem.W.plainOver K C = true
  sa : PySem.W.findIn K (.ref C) "__setattr__" = some (some (.builtin "object.__setattr__"))
theorem Cls.get {K : PySem.W.Frag} {C : Addr} (c : Cls K C) (f : Str) : PySem.W.plainGet K C f = true := c.pg
def NoAttr (K : PySem.W.Frag) (C : Addr) (f : Str) : Prop := PySem.W.findIn K (.ref C) f = some none
theorem NoAttr.taker {K : PySem.W.Frag} {C : Addr} {f : Str} (n : NoAttr K C f) : PySem.W.takerIn K C f = some none := by
  unfold PySem.W.takerIn
  rw [show PySem.W.findIn K (.ref C) f = some none from n]
  rfl
structure Con (K : PySem.W.Frag) (C : Addr) (f : Str) (v : V) (u : Value) : Prop where
  at_ : PySem.W.findIn K (.ref C) f = some (some u)
  rel : RelV v u
  get : PySem.W.specialIn K u "__get__" = some none
  cp : PySem.W.copiedNames.contains f = false
structure Meth (K : PySem.W.Frag) (C : Addr) (m : Str) (f : Addr) : Prop where
  at_ : PySem.W.findIn K (.ref C) m = some (some (.ref f))
  fn : PySem.W.isFn K (.ref f) = true
  kp : PySem.W.keepIn K (.ref f) = true
section
variable {X : Cx} {pins : List (Addr × Obj)} {σ : St} {H : Hp} {s : Shared} {a C dx : Addr} {fs : List (Str × V)} {f : Str} {v : V} {A : Around} {E : Value → Shared → Prop}
theorem getattr_ok {b : Bool} {Q : Value → Shared → Prop} (I : Inv X pins σ H s) (e : H a = some (.ins C dx fs)) (c : Cls X.K C) (n : NoAttr X.K C f) (l : fs.lookup f = some v)
    (h : ∀ u s', Inv X pins σ H s' → RelV v u → Q u s') : wpAny (model X.prog X.w) A (getAttr (.ref a) f b) Q E s := by
  obtain ⟨mA, O, r, _, _, _⟩ := ins_get I.hok e
  obtain ⟨u, hu, ru⟩ := RelO.some_of (v := v) (o := mA f) (by rw [← l]; exact r f)
  exact get_map I.kIn O (c.get f) c.hd n hu (handed_of ru) (h u _ (I.tok _) ru)
theorem getmeth_ok {m : Str} {g : Addr} {pl : Sem Bool} {Q : Value × List Value → Shared → Prop} (I : Inv X pins σ H s) (e : H a = some (.ins C dx fs)) (c : Cls X.K C) (k : Meth X.K C m g) (l : fs.lookup m = none)
    (h : Q (.ref g, [.ref a]) s) : wpAny (model X.prog X.w) A (getMethod (.ref a) m pl) Q E s := by
  obtain ⟨mA, O, r, _, _, _⟩ := ins_get I.hok e
  have hn : mA m = none := RelO.none_of (by rw [← l]; exact r m)
  exact get_meth I.kIn O (c.get m) k.at_ k.fn hn h
theorem setattr_ok {y : V} {u : Value} {Q : Unit → Shared → Prop} (I : Inv X pins σ H s) (e : H a = some (.ins C dx fs)) (c : Cls X.K C) (n : NoAttr X.K C f) (hl : fs.length < 1000) (ry : RelV y u)
    (h : ∀ s', Inv X pins σ (upd H a (.ins C dx (putF f y fs))) s' → Q () s') : wpAny (model X.prog X.w) A (setAttr (.ref a) f u) Q E s := by
  obtain ⟨mA, O, r, wi, _, ho⟩ := ins_get I.hok e
  have hz : (fs.map (·.1)).length ≤ sizeLine := by rw [List.length_map, sizeLine_eq]; omega
  refine set_map I.kIn O c.sa c.po n.taker c.hd wi hz fun h' O' sb => h _ ?_
  have hd : ∃ o, h'.get? dx = some o := let ⟨o, _, _, e', _⟩ := O'.ns; ⟨o, e'⟩
  refine I.write (x := a) (e := dx) (by rw [e]; exact True.intro) (.inr ho) (fun b q hb z => (sb.2 b hb).trans z) hd ?_
  refine ⟨by rw [upd_ne O.ne]; exact ho, ?_, O.ne, O'.obj, _, O'.ns, fun g => ?_, fun g hg => ?_⟩
  · have := length_putF f y fs; omega
  · show RelO ((putF f y fs).lookup g) (if g = f then some u else mA g)
    rw [lookup_putF]
    by_cases q : g = f
    · rw [if_pos q, if_pos q]; exact ry
    · rw [if_neg q, if_neg q]; exact r g
  · by_cases q : g = f
    · rw [q]; exact (keys_putF f y fs).1
    · refine (keys_putF f y fs).2 g (wi g fun z => hg ?_)
      show (if g = f then some u else mA g) = none
      rw [if_neg q]; exact z
theorem Inv.made (I : Inv X pins σ H s) : Inv X pins σ (upd (upd H s.heap.objs.size (.own (s.heap.objs.size + 1))) (s.heap.objs.size + 1) (.ins C s.heap.objs.size []))
    { s with heap := (s.heap.push PySem.W.emptyDict).push (PySem.W.instObj C s.heap.objs.size) } := by
  have e1 : (s.heap.push PySem.W.emptyDict).get? s.heap.objs.size = some PySem.W.emptyDict := Heap.get?_push_size s.heap rfl
  have e2 : ((s.heap.push PySem.W.emptyDict).push (PySem.W.instObj C s.heap.objs.size)).get? (s.heap.objs.size + 1) = some (PySem.W.instObj C s.heap.objs.size) := by
    have := Heap.get?_push_size (s.heap.push PySem.W.emptyDict) (o := PySem.W.instObj C s.heap.objs.size) rfl
    rwa [Heap.size_push] at this
  have e3 : (s.heap.push PySem.W.emptyDict).Ns s.heap.objs.size (fun _ => none) := ⟨PySem.W.emptyDict, #[], _, e1, rfl, (fun e he => absurd he (by simp)), fun _ => rfl⟩
  have I1 := I.laid (a := s.heap.objs.size) (o := .own (s.heap.objs.size + 1)) (h' := s.heap.push PySem.W.emptyDict) (t' := s.toks) (fun b u q => Heap.get?_push_of_some _ q) (Nat.le_refl _) ⟨_, e1⟩
  refine I1.laid (a := s.heap.objs.size + 1) (o := .ins C s.heap.objs.size []) (t' := s.toks) (fun b u q => Heap.get?_push_of_some _ q) (Nat.le_of_eq (Heap.size_push _ _)) ?_
  have ne : s.heap.objs.size ≠ s.heap.objs.size + 1 := Nat.ne_of_lt (Nat.lt_succ_self _)
  refine ⟨by rw [upd_ne ne, upd_same], Nat.zero_le _, ne, e2, fun _ => none, (Heap.Ns1.of_empty e3).at fun o q => Heap.get?_push_of_some _ q, fun _ => True.intro, fun y hy => absurd rfl hy⟩
theorem attr_of {prog : Program} {w : World} {env : Env} {e : Expr} {f : Str} {pos : Pos} {s : Shared} {Q : Value → Shared → Prop} (hb : attributeBase e f env (eval e env) = eval e env)
    (h : wpAny (model prog w) A (eval e env) (fun o s₁ => wpAny (model prog w) A (getAttr o f true) Q E s₁) E s) : wpAny (model prog w) A (eval (.Attribute e f pos) env) Q E s :=
  Attribute_any_ h (by rw [arm_eval_Attribute, hb])
end
def tFld (K : PySem.W.Frag) (ta : TE) (f : Str) : TE := fun σ H Q => ta σ H fun x H1 => ∃ a C dx fs v, x = .ref a ∧ H1 a = some (.ins C dx fs) ∧ Cls K C ∧ NoAttr K C f ∧ fs.lookup f = some v ∧ Q v H1
def sFld (K : PySem.W.Frag) (ta tv : TE) (f : Str) : TS := fun D σ H => tv σ H fun y H1 => ta σ H1 fun x H2 => ∃ a C dx fs, x = .ref a ∧ H2 a = some (.ins C dx fs) ∧ Cls K C ∧ NoAttr K C f ∧ fs.length < 1000 ∧
  D.nx σ (upd H2 a (.ins C dx (putF f y fs)))
section
variable {X : Cx} {o e value : Expr} {f : Str} {pos pos' tpos : Pos} {ta tv : TE}
theorem pe_fld (he : PE X e ta) (hb : attributeBase e f X.env (eval e X.env) = eval e X.env) : PE X (.Attribute e f pos) (tFld X.K ta f) := by
  intro pins s σ H Q I h
  refine attr_of hb (thn (he pins s σ H _ I h) fun u s1 ⟨x, H1, I1, rx, a, C, dx, fs, v, ex, ea, c, n, l, q⟩ => ?_)
  subst ex
  obtain rfl : u = Value.ref a := rx
  exact getattr_ok I1 ea c n l fun u' s2 I2 ru => ⟨v, H1, I2, ru, q⟩
theorem ps_fld (ha : PE X o ta) (hv : PE X value tv) (hs : swapsWith value (some (.Attribute o f pos')) pos.line X.env = pure false) : PS X (.Assign [.Attribute o f pos'] value pos) (sFld X.K ta tv f) := by
  intro pins s σ H D I h
  refine plainObj_wpAny_Assign_Attribute (thn (hv pins s σ H _ I h) fun u s1 ⟨y, H1, I1, ry, q⟩ => thn (ha pins s1 σ H1 _ I1 q) fun ov s2 ⟨x, H2, I2, rx, a, C, dx, fs, ex, ea, c, n, l, q2⟩ => ?_) hs
  subst ex
  obtain rfl : ov = Value.ref a := rx
  exact setattr_ok I2 ea c n l ry fun s3 I3 => ⟨σ, _, I3, q2⟩
end
section
variable {X : Cx} {pins : List (Addr × Obj)} {σ : St} {H : Hp} {s : Shared} {A : Around} {E : Value → Shared → Prop} {Q : Value → Shared → Prop} {c : Value} {b : Bool}
inductive TyOf (K : PySem.W.Frag) (H : Hp) : V → Value → Prop where
  | non : TyOf K H .non (.type "NoneType")
  | bl (x : Bool) : TyOf K H (.bl x) (.type "bool")
  | int (i : Int) : TyOf K H (.int i) (.type "int")
  | str (x : Str) : TyOf K H (.str x) (.type "str")
  | flt (x : UInt64) : TyOf K H (.flt x) (.type "float")
  | lst {a : Addr} {xs : List V} (e : H a = some (.lst xs)) : TyOf K H (.ref a) (.type "list")
  | frz {a : Addr} {o : Obj} {xs : List V} (e : H a = some (.frz o (.lst xs))) : TyOf K H (.ref a) (.type "list")
  | tup {a : Addr} {xs : List V} (e : H a = some (.tup xs)) : TyOf K H (.ref a) (.type "tuple")
  | dK {a : Addr} {kvs : List (Key × V)} (e : H a = some (.dK kvs)) : TyOf K H (.ref a) (.type "dict")
  | dT {a : Addr} {kvs : List (List Key × V)} (e : H a = some (.dT kvs)) : TyOf K H (.ref a) (.type "dict")
  | ins {a C dx : Addr} {fs : List (Str × V)} (e : H a = some (.ins C dx fs)) (cl : Cls K C) (ha : PySem.W.findIn K (.ref C) "__class__" = some (some (.builtin "object.__class__")))
      (hn : PySem.W.specialIn K (.builtin "object.__class__") "__get__" = some (some (.builtin "getset_descriptor.__get__"))) (htk : PySem.W.takesIn K (.builtin "object.__class__") = some true)
      (hm : PySem.W.mroIn K C (.type "object") = some true) : TyOf K H (.ref a) (.ref C)
theorem isinst_ok {x : V} {u t : Value} (I : Inv X pins σ H s) (rx : RelV x u) (ty : TyOf X.K H x t) (e : PySem.W.kitOne X.K t c = some b) (h : ∀ tk, Q (.bool b) { s with toks := tk }) :
    wpAny (model X.prog X.w) A (call (.builtin "isinstance") [u, c]) Q E s := by
  cases ty with
  | non => cases (show u = Value.none from rx); exact PySem.W.kia_one PySem.W.kitx_none I.kIn True.intro e (fun z => nomatch z) h
  | bl y => cases (show u = Value.bool y from rx); exact PySem.W.kia_one PySem.W.kitx_bool I.kIn True.intro e (fun z => nomatch z) h
  | int i => obtain ⟨t, q⟩ := (show ∃ t, u = Value.int i t from rx); cases q; exact PySem.W.kia_one PySem.W.kitx_int I.kIn True.intro e (fun z => nomatch z) h
  | str y => obtain ⟨t, q⟩ := (show ∃ t, u = Value.str y t from rx); cases q; exact PySem.W.kia_one PySem.W.kitx_str I.kIn True.intro e (fun z => nomatch z) h
  | flt y => obtain ⟨t, q⟩ := (show ∃ t, u = Value.float y t from rx); cases q; exact PySem.W.kia_one PySem.W.kitx_float I.kIn True.intro e (fun z => nomatch z) h
  | @lst a xs ea =>
    cases (show u = Value.ref a from rx)
    obtain ⟨_, _, n, _, h1⟩ := (show ObjOk X.prog X.w H s.heap a (.lst xs) from I.hok a _ ea)
    exact PySem.W.kia_one PySem.W.kitx_list I.kIn ⟨_, h1, rfl⟩ e (fun z => nomatch z) h
  | @frz a ob xs ea =>
    cases (show u = Value.ref a from rx)
    obtain ⟨_, _, _, n, _, h1⟩ := (show ObjOk X.prog X.w H s.heap a (.frz ob (.lst xs)) from I.hok a _ ea)
    exact PySem.W.kia_one PySem.W.kitx_list I.kIn ⟨_, h1, rfl⟩ e (fun z => nomatch z) h
  | @tup a xs ea =>
    cases (show u = Value.ref a from rx)
    obtain ⟨_, _, _, p⟩ := (show ObjOk X.prog X.w H s.heap a (.tup xs) from I.hok a _ ea)
    obtain ⟨o, h1, h2, _⟩ := p
    exact PySem.W.kia_one PySem.W.kitx_tuple I.kIn ⟨o, h1, h2⟩ e (fun z => nomatch z) h
  | @dK a kvs ea =>
    cases (show u = Value.ref a from rx)
    obtain ⟨_, _, vs, _, p⟩ := (show ObjOk X.prog X.w H s.heap a (.dK kvs) from I.hok a _ ea)
    obtain ⟨o, es, ep, h1, h2, _⟩ := p
    exact PySem.W.kia_one PySem.W.kitx_dict I.kIn ⟨o, h1, h2.1⟩ e (fun z => nomatch z) h
  | @dT a kvs ea =>
    cases (show u = Value.ref a from rx)
    obtain ⟨_, _, xs, _, o, es, ep, h1, h2, _⟩ := (show ObjOk X.prog X.w H s.heap a (.dT kvs) from I.hok a _ ea)
    exact PySem.W.kia_one PySem.W.kitx_dict I.kIn ⟨o, h1, h2.1⟩ e (fun z => nomatch z) h
  | @ins a C dx fs ea cl ha hn htk hm =>
    cases (show u = Value.ref a from rx)
    obtain ⟨mA, O, _⟩ := ins_get I.hok ea
    obtain ⟨od, J, _⟩ := O.look
    exact PySem.W.kia_one (PySem.W.kitx_own (cl.get _) cl.hd ha hn htk hm) I.kIn J e (fun z => nomatch z) h
end
end L2
namespace L2
open PySem PySem.Spec PyProof.Rows
structure Room (k : Nat) (A : Around) : Prop where
  hd : A.handled = none
  dp : A.depth + 3 * k + 5 < recursionLimit
  un : A.units + 16 * k + 200 < cLine
theorem Room.mono {j k : Nat} {A : Around} (r : Room k A) (h : j ≤ k) : Room j A := ⟨r.hd, by have := r.dp; omega, by have := r.un; omega⟩
theorem Room.deeper {k : Nat} {A : Around} (r : Room (k + 1) A) (env : Env) : Room k (A.deeper env) :=
  ⟨r.hd, by have := r.dp; show A.depth + 1 + 3 * k + 5 < _; omega, by have := r.un; show A.units + 3 + 16 * k + 200 < _; omega⟩
theorem make_depth {A : Around} {C : Addr} {us : List Value} {kw : List (Str × Value)} : (A.under (.builtin "type.__call__" ⟨.ref C :: us, kw⟩)).depth = A.depth + 1 := by
  first | rfl | simp [Around.under, Code.weight, Code.isCreation, Code.isGuard, Code.isCaller, Code.frames, Code.isFrame, guardIds]
theorem make_units {A : Around} {C : Addr} {us : List Value} {kw : List (Str × Value)} : (A.under (.builtin "type.__call__" ⟨.ref C :: us, kw⟩)).units = A.units + 1 := by
  first | rfl | simp [Around.under, Code.cUnits, Code.frames, Code.isFrame]
theorem Room.make {k : Nat} {A : Around} (r : Room (k + 1) A) (C : Addr) (us : List Value) (kw : List (Str × Value)) : Room k (A.under (.builtin "type.__call__" ⟨.ref C :: us, kw⟩)) :=
  ⟨r.hd, by have := r.dp; rw [make_depth]; omega, by have := r.un; rw [make_units]; omega⟩
theorem Room.depth {k : Nat} {A : Around} (r : Room k A) : A.depth < recursionLimit := by have := r.dp; omega
theorem Room.units {k : Nat} {A : Around} (r : Room k A) : A.units + 64 < cLine := by have := r.un; omega
def tNil : TA := fun _ H Q => Q [] H
def tCons (ta : TE) (tr : TA) : TA := fun σ H Q => ta σ H fun x H1 => tr σ H1 fun xs H2 => Q (x :: xs) H2
section
variable {X : Cx} {e : Expr} {es : List Expr} {te : TE} {t : TA} {pos : Pos}
theorem pa_nil : PA X [] tNil := fun _ _ _ _ H Q I h => Calls.spliced_nil ⟨[], H, I, .nil, h⟩
theorem pa_cons (ha : PE X e te) (hr : PA X es t) (hs : starEach (e :: es) X.env = (false, eval e X.env) :: starEach es X.env := by rfl) : PA X (e :: es) (tCons te t) := by
  intro pos pins s σ H Q I h
  rw [hs]
  show wpAny _ _ (spliced ((false, eval e X.env) :: backTo pos (starEach es X.env))) _ _ s
  refine Calls.spliced_cons (thn (ha pins s σ H _ I h) fun u s1 ⟨x, H1, I1, r1, q1⟩ => ?_)
  exact thn (hr pos pins s1 σ H1 _ I1 q1) fun us s2 ⟨xs, H2, I2, r2, q2⟩ => ⟨x :: xs, H2, I2, .cons r1 r2, q2⟩
def tTup (t : TA) : TE := fun σ H Q => t σ H fun xs H1 => xs.length ≤ sizeLine ∧ ∀ p, H1 p = none → Q (.ref p) (upd H1 p (.tup xs))
def tLst (t : TA) : TE := fun σ H Q => t σ H fun xs H1 => xs.length ≤ sizeLine ∧ ∀ p, H1 p = none → Q (.ref p) (upd H1 p (.lst xs))
theorem pe_tup {x1} (h : PA X es t) : PE X (.Tuple es x1 pos) (tTup t) := by
  intro pins s σ H Q I hq
  refine wpAny_Tuple_spliced (thn (h pos pins s σ H _ I hq) fun us s1 ⟨xs, H1, I1, r, z, q⟩ => ⟨by rw [← r.length]; exact z, ?_⟩)
  have hf : H1 s1.heap.objs.size = none := I1.hok.fresh (Nat.le_refl _)
  refine ⟨.ref s1.heap.objs.size, upd H1 s1.heap.objs.size (.tup xs), I1.laid (t' := s1.toks) (fun b u e => Heap.get?_push_of_some _ e) (Nat.le_refl _) ?_, rfl, q _ hf⟩
  exact ⟨z, us, r, ⟨_, Heap.get?_push_size _ rfl, rfl, _, rfl⟩⟩
theorem pe_lst (h : PA X es t) : PE X (.List es pos) (tLst t) := by
  intro pins s σ H Q I hq
  refine wpAny_List_spliced (thn (h pos pins s σ H _ I hq) fun us s1 ⟨xs, H1, I1, r, z, q⟩ => ⟨by rw [← r.length]; exact z, ?_⟩)
  have hf : H1 s1.heap.objs.size = none := I1.hok.fresh (Nat.le_refl _)
  refine ⟨.ref s1.heap.objs.size, upd H1 s1.heap.objs.size (.lst xs), I1.laid (t' := s1.toks) (fun b u e => Heap.get?_push_of_some _ e) (Nat.le_refl _) ?_, rfl, q _ hf⟩
  exact ⟨z, us, 0, r, Heap.get?_push_size _ rfl⟩
end
abbrev Sp := List V → Hp → VK → XK → Prop
abbrev CXT := List Env → Hp → Shared → XK → Value → Shared → Prop
structure Env0 (P : Program) (w : World) (K : PySem.W.Frag) (mg : Str → Option Value) (base : Heap) (A : Around) (outer : List Env) (s : Shared) (H : Hp) : Prop where
  frames : A.frames = some outer
  mod : Mod K mg base
  bs : ∀ b o, base.get? b = some o → s.heap.get? b = some o ∧ H b = none
  bsz : base.objs.size ≤ s.heap.objs.size
  funs : s.heap.FunFrames base outer
  frf : ∀ b ∈ frs outer, H b = none
  hok : HOk P w H s.heap
  bare : AllBare s.gens
def CE (outer : List Env) (P : Program) (w : World) (H : Hp) (s : Shared) (Q : VK) (u : Value) (s' : Shared) : Prop :=
  ∃ v H', s'.os = s.os ∧ AllBare s'.gens ∧ Un (frs outer) [] H H' s.heap s'.heap ∧ HOk P w H' s'.heap ∧ RelV v u ∧ Q v H'
def CR (CX : CXT) (outer : List Env) (P : Program) (w : World) (H : Hp) (s : Shared) (Q : VK) (E : XK) (r : Result) (s' : Shared) : Prop :=
  match r with
  | .ok (.ret u) => CE outer P w H s Q u s'
  | .ok _ => False
  | .error e => CX outer H s E e s'
structure FnOk (P : Program) (w : World) (K : PySem.W.Frag) (mg : Str → Option Value) (base : Heap) (CX : CXT) (k : Nat) (f : Addr) (fd : FuncData) (ps : List Str) (sp : Sp) : Prop where
  len : ∀ vs H Q E, sp vs H Q E → vs.length = ps.length
  run : ∀ (A : Around) (outer : List Env) (s : Shared) (H : Hp) (args : Args) (us : List Value) (vs : List V) (Q : VK) (E : XK), Room k A → Env0 P w K mg base A outer s H → BindsTo s fd args (ps.zip us) → Vals vs us → sp vs H Q E →
    codeAny (model P w) A (.call (.ref f) args) (CR CX outer P w H s Q E) s
theorem FnOk.imp {P : Program} {w : World} {K : PySem.W.Frag} {mg : Str → Option Value} {base : Heap} {CX : CXT} {k : Nat} {f : Addr} {fd : FuncData} {ps : List Str} {sp sp' : Sp} (F : FnOk P w K mg base CX k f fd ps sp)
    (h : ∀ vs H Q E, sp' vs H Q E → sp vs H Q E) : FnOk P w K mg base CX k f fd ps sp' :=
  ⟨fun vs H Q E q => F.len vs H Q E (h _ _ _ _ q), fun A outer s H args us vs Q E hr he hb hv hs => F.run A outer s H args us vs Q E hr he hb hv (h _ _ _ _ hs)⟩
theorem Env0.make {P : Program} {w : World} {K : PySem.W.Frag} {mg : Str → Option Value} {base : Heap} {A : Around} {outer : List Env} {s : Shared} {H : Hp} (e : Env0 P w K mg base A outer s H) (C : Addr) (us : List Value) (kw : List (Str × Value)) :
    Env0 P w K mg base (A.under (.builtin "type.__call__" ⟨.ref C :: us, kw⟩)) outer s H := ⟨by first | exact e.frames | (simpa [Around.under, Code.envs, Code.isFrame, pushEnvs] using e.frames), e.mod, e.bs, e.bsz, e.funs, e.frf, e.hok, e.bare⟩
section
variable {X : Cx} {pins : List (Addr × Obj)} {σ : St} {H : Hp} {s s' : Shared}
theorem Inv.env0 (I : Inv X pins σ H s) : Env0 X.prog X.w X.K X.mg X.base X.A X.stack s H :=
  ⟨I.ok.frames, I.ok.mod, I.bs, Nat.le_trans I.ok.bsz I.sz, I.stack, I.stkFree, I.hok, I.bare⟩
theorem Inv.after {Q : VK} {u : Value} (I : Inv X pins σ H s) (h : CE X.stack X.prog X.w H s Q u s') : EP X pins σ Q u s' := by
  obtain ⟨v, H', os, bare, un, hok, r, q⟩ := h
  obtain ⟨hh, g, d, t, os'⟩ := s'
  obtain rfl : os' = s.os := os
  exact ⟨v, H', I.call (h' := hh) (g' := g) (d' := d) (t' := t) (ch := []) un hok bare (fun b z => absurd z (by simp)), r, q⟩
end
def tCall (sp : Sp) (dvs : List V) (E : XK) (t : TA) : TE := fun σ H Q => t σ H fun vs H1 => sp (vs ++ dvs) H1 Q E
def tMeth (C : Addr) (m : Str) (sp : Sp) (dvs : List V) (E : XK) (ta : TE) (t : TA) : TE := fun σ H Q => ta σ H fun x H1 => ∃ a dx fs, x = .ref a ∧ H1 a = some (.ins C dx fs) ∧ fs.lookup m = none ∧
  t σ H1 fun vs H2 => sp (x :: (vs ++ dvs)) H2 Q E
def tMake (C : Addr) (sp : Sp) (dvs : List V) (E : XK) (t : TA) : TE := fun σ H Q => t σ H fun vs H1 => ∀ x dx, H1 x = none → H1 dx = none → dx ≠ x →
  sp (.ref x :: (vs ++ dvs)) (upd (upd H1 dx (.own x)) x (.ins C dx [])) (fun v H2 => v = .non ∧ Q (.ref x) H2) E
def Binds (K : PySem.W.Frag) (fd : FuncData) (ps : List Str) (ds : List Value) : Prop :=
  ∀ (s : Shared) (us : List Value), K.In s.heap → (us ++ ds).length = ps.length → BindsTo s fd ⟨us, []⟩ (ps.zip (us ++ ds))
theorem Binds.all {K : PySem.W.Frag} {fd : FuncData} {ps : List Str} (h : ∀ us : List Value, us.length = ps.length → bindArgs fd ⟨us, []⟩ = pure (ps.zip us)) : Binds K fd ps [] := fun s us _ hl => by
  rw [List.append_nil] at hl ⊢
  exact .of_eq (h us hl)
def Passes (CX : CXT) (X : Cx) (E : XK) : Prop := ∀ (pins : List (Addr × Obj)) (σ : St) (H : Hp) (s : Shared) (e : Value) (s' : Shared), Inv X pins σ H s → CX X.stack H s E e s' → X.xe e s'
section
variable {X : Cx} {CX : CXT} {k : Nat} {f C : Addr} {fd : FuncData} {ps : List Str} {sp : Sp} {dvs : List V} {ds : List Value} {E : XK} {x m : Str} {p pos apos : Pos} {e o : Expr} {es : List Expr} {ta : TE} {t : TA}
theorem run_fn {pins : List (Addr × Obj)} {σ : St} {H : Hp} {s : Shared} {Q : VK} {us : List Value} {vs : List V} (F : FnOk X.prog X.w X.K X.mg X.base CX k f fd ps sp) (hr : Room k X.A) (hb : Binds X.K fd ps ds) (hd : Vals dvs ds) (hx : Passes CX X E)
    (I : Inv X pins σ H s) (r : Vals vs us) (h : sp (vs ++ dvs) H Q E) : wpAny (model X.prog X.w) X.A (call (.ref f) us) (EP X pins σ Q) X.xe s := by
  have r2 : Vals (vs ++ dvs) (us ++ ds) := r.append hd
  have hl : (us ++ ds).length = ps.length := by rw [← r2.length]; exact F.len _ _ _ _ h
  refine wpAny_call (codeAny_mono (F.run X.A X.stack s H ⟨us, []⟩ (us ++ ds) (vs ++ dvs) Q E hr I.env0 (hb s us I.kIn hl) r2 h) fun r s' hq => ?_)
  cases r with
  | error e => exact hx pins σ H s e s' I hq
  | ok fl =>
    cases fl with
    | ret u => exact I.after hq
    | next => exact False.elim hq
    | brk => exact False.elim hq
    | cont => exact False.elim hq
theorem pe_call (F : FnOk X.prog X.w X.K X.mg X.base CX k f fd ps sp) (hr : Room k X.A) (hg : Gl X x) (hm : X.mg x = some (.ref f)) (hk : PySem.W.keepIn X.K (.ref f) = true) (hb : Binds X.K fd ps ds) (hd : Vals dvs ds) (hx : Passes CX X E)
    (ha : PA X (e :: es) t) (hdb : (x == ("__debug__" : Str)) = false := by decide) (he : starEach (e :: es) X.env = (false, eval e X.env) :: starEach es X.env := by rfl) (hpl : (backTo pos (starEach es X.env)).any (·.1) = false := by rfl) :
    PE X (.Call (.Name x p) (e :: es) [] pos) (tCall sp dvs E t) := by
  intro pins s σ H Q I h
  refine wpAny_Call_Name_kw (ld_glob I hg hm ?_ hdb)
  refine PySem.W.callWith_K (h₀ := X.base) I.ok.mod.kin hk (thn (ha pos pins s σ H _ I h) fun us s1 ⟨vs, H1, I1, r, q⟩ => ⟨I1.kIn, ?_⟩) he hpl
  exact run_fn F hr hb hd hx I1 r q
theorem pe_call0 (F : FnOk X.prog X.w X.K X.mg X.base CX k f fd ps sp) (hr : Room k X.A) (hg : Gl X x) (hm : X.mg x = some (.ref f)) (hk : PySem.W.keepIn X.K (.ref f) = true) (hb : Binds X.K fd ps ds) (hd : Vals dvs ds) (hx : Passes CX X E)
    (hdb : (x == ("__debug__" : Str)) = false := by decide) : PE X (.Call (.Name x p) [] [] pos) (tCall sp dvs E tNil) := by
  intro pins s σ H Q I h
  refine wpAny_Call_Name_kw (ld_glob I hg hm ?_ hdb)
  exact PySem.W.callWith_K0 I.kIn hk (run_fn (us := []) F hr hb hd hx I .nil h)
theorem pe_meth {pl : Sem Bool} (he : PE X o ta) (c : Cls X.K C) (hm : Meth X.K C m f) (F : FnOk X.prog X.w X.K X.mg X.base CX k f fd ps sp) (hr : Room k X.A) (hb : Binds X.K fd ps ds) (hd : Vals dvs ds) (hx : Passes CX X E) (ha : PA X (e :: es) t)
    (hst : starEach (e :: es) X.env = (false, eval e X.env) :: starEach es X.env := by rfl) (hpl : (backTo pos (starEach es X.env)).any (·.1) = false := by rfl)
    (ht : eval (.Call (.Attribute o m apos) (e :: es) [] pos) X.env = (do
      let ov ← eval o X.env
      standAt apos.atName
      let (f, first) ← holding [ov] (getMethod ov m pl)
      callWith pos f first (backTo pos (starEach (e :: es) X.env)) (backToKw pos (keywordEach [] X.env))) := by rfl) :
    PE X (.Call (.Attribute o m apos) (e :: es) [] pos) (tMeth C m sp dvs E ta t) := by
  intro pins s σ H Q I h
  refine PySem.W.methodCall_KW (pl := pl) (thn (he pins s σ H _ I h) fun u s1 ⟨x, H1, I1, rx, a, dx, fs, ex, ea, l, q⟩ => ?_) ht
  subst ex
  obtain rfl : u = Value.ref a := rx
  refine getmeth_ok I1 ea c hm l ?_
  refine PySem.W.callWith_K (first := [.ref a]) (h₀ := X.base) I.ok.mod.kin hm.kp (thn (ha pos pins s1 σ H1 _ I1 q) fun us s2 ⟨vs, H2, I2, r, q2⟩ => ⟨I2.kIn, ?_⟩) hst hpl
  exact run_fn (us := .ref a :: us) (vs := .ref a :: vs) F hr hb hd hx I2 (.cons rfl r) q2
theorem pe_meth0 {pl : Sem Bool} (he : PE X o ta) (c : Cls X.K C) (hm : Meth X.K C m f) (F : FnOk X.prog X.w X.K X.mg X.base CX k f fd ps sp) (hr : Room k X.A) (hb : Binds X.K fd ps ds) (hd : Vals dvs ds) (hx : Passes CX X E)
    (ht : eval (.Call (.Attribute o m apos) [] [] pos) X.env = (do
      let ov ← eval o X.env
      standAt apos.atName
      let (f, first) ← holding [ov] (getMethod ov m pl)
      callWith pos f first (backTo pos (starEach [] X.env)) (backToKw pos (keywordEach [] X.env))) := by rfl) :
    PE X (.Call (.Attribute o m apos) [] [] pos) (tMeth C m sp dvs E ta tNil) := by
  intro pins s σ H Q I h
  refine PySem.W.methodCall_KW (pl := pl) (thn (he pins s σ H _ I h) fun u s1 ⟨x, H1, I1, rx, a, dx, fs, ex, ea, l, q⟩ => ?_) ht
  subst ex
  obtain rfl : u = Value.ref a := rx
  refine getmeth_ok I1 ea c hm l ?_
  exact PySem.W.callWith_K0 (first := [.ref a]) I1.kIn hm.kp (run_fn (us := [.ref a]) (vs := [.ref a]) F hr hb hd hx I1 (.cons rfl .nil) q)
structure Mk (K : PySem.W.Frag) (C f : Addr) : Prop where
  makes : PySem.W.makesIn K C = true
  init : PySem.W.findIn K (.ref C) "__init__" = some (some (.ref f))
  fn : PySem.W.isFn K (.ref f) = true
  kp : PySem.W.keepIn K (.ref C) = true
theorem run_make {pins : List (Addr × Obj)} {σ : St} {H : Hp} {s : Shared} {Q : VK} {us : List Value} {vs : List V} (M : Mk X.K C f) (F : FnOk X.prog X.w X.K X.mg X.base CX k f fd ps sp) (hr : Room (k + 1) X.A) (hb : Binds X.K fd ps ds) (hd : Vals dvs ds)
    (hx : Passes CX X E) (I : Inv X pins σ H s) (r : Vals vs us)
    (h : ∀ x dx, H x = none → H dx = none → dx ≠ x → sp (.ref x :: (vs ++ dvs)) (upd (upd H dx (.own x)) x (.ins C dx [])) (fun v H2 => v = .non ∧ Q (.ref x) H2) E) :
    wpAny (model X.prog X.w) X.A (call (.ref C) us) (EP X pins σ Q) X.xe s := by
  have hq := h (s.heap.objs.size + 1) s.heap.objs.size (I.hok.fresh (Nat.le_succ _)) (I.hok.fresh (Nat.le_refl _)) (Nat.ne_of_lt (Nat.lt_succ_self _))
  have I2 := Inv.made (C := C) I
  have r2 : Vals (V.ref (s.heap.objs.size + 1) :: (vs ++ dvs)) (Value.ref (s.heap.objs.size + 1) :: (us ++ ds)) := .cons rfl (r.append hd)
  have hl : (Value.ref (s.heap.objs.size + 1) :: us ++ ds).length = ps.length := by
    have e := r2.length
    rw [F.len _ _ _ _ hq] at e
    exact e.symm
  refine wpAny_call (make_map (f := f) I.kIn M.makes M.init (beq_iff_eq.mp M.fn) (codeAny_mono (F.run _ X.stack _ _ ⟨Value.ref (s.heap.objs.size + 1) :: us, []⟩ (Value.ref (s.heap.objs.size + 1) :: (us ++ ds)) _ _ E (hr.make C us [])
    (I2.env0.make C us []) (hb _ (Value.ref (s.heap.objs.size + 1) :: us) I2.kIn hl) r2 hq) fun r s' hq' => ?_))
  cases r with
  | error e => exact hx pins σ _ _ e s' I2 hq'
  | ok fl =>
    cases fl with
    | ret u =>
      obtain ⟨v, H', I3, rv, ev, q3⟩ := I2.after hq'
      subst ev
      exact ⟨rv, ⟨V.ref (s.heap.objs.size + 1), H', I3, rfl, q3⟩⟩
    | next => exact False.elim hq'
    | brk => exact False.elim hq'
    | cont => exact False.elim hq'
theorem pe_make (M : Mk X.K C f) (F : FnOk X.prog X.w X.K X.mg X.base CX k f fd ps sp) (hr : Room (k + 1) X.A) (hg : Gl X x) (hm : X.mg x = some (.ref C)) (hb : Binds X.K fd ps ds) (hd : Vals dvs ds) (hx : Passes CX X E)
    (ha : PA X (e :: es) t) (hdb : (x == ("__debug__" : Str)) = false := by decide) (he : starEach (e :: es) X.env = (false, eval e X.env) :: starEach es X.env := by rfl) (hpl : (backTo pos (starEach es X.env)).any (·.1) = false := by rfl) :
    PE X (.Call (.Name x p) (e :: es) [] pos) (tMake C sp dvs E t) := by
  intro pins s σ H Q I h
  refine wpAny_Call_Name_kw (ld_glob I hg hm ?_ hdb)
  refine PySem.W.callWith_K (h₀ := X.base) I.ok.mod.kin M.kp (thn (ha pos pins s σ H _ I h) fun us s1 ⟨vs, H1, I1, r, q⟩ => ⟨I1.kIn, ?_⟩) he hpl
  exact run_make M F hr hb hd hx I1 r q
end
section
variable {X : Cx} {CX : CXT} {k : Nat} {f C : Addr} {fd : FuncData} {ps ks : List Str} {sp : Sp} {E : XK} {x m : Str} {p pos apos kpos : Pos} {e o : Expr} {es : List Expr} {kws : List Keyword} {te ta : TE} {t tk : TA} {nm : Option Str}
structure KBinds (K : PySem.W.Frag) (fd : FuncData) (ps ks : List Str) (g : List Value → List Value → List Value) (gV : List V → List V → List V) : Prop where
  to : ∀ (s : Shared) (us ws : List Value), K.In s.heap → (g us ws).length = ps.length → BindsTo s fd ⟨us, ks.zip ws⟩ (ps.zip (g us ws))
  rel : ∀ {vs : List V} {us : List Value} {zs : List V} {ws : List Value}, Vals vs us → Vals zs ws → Vals (gV vs zs) (g us ws)
variable {g : List Value → List Value → List Value} {gV : List V → List V → List V}
end
structure FnScope (N P : List Str) (sc : Scope) : Prop where
  kind : sc.kind = .function
  co : sc.isCoroutine = false
  gen : sc.isGenerator = false
  nd : N.Nodup
  pre : N.take P.length = P
  par : ∀ x ∈ P, sc.names.lookup x = some .local ∨ sc.names.lookup x = some .cell
  nofree : ∀ y ∈ sc.names, y.2 ≠ .free
theorem bindL_out {kindOf : Str → Option NameKind} {x : Str} : ∀ {binds : List (Str × Value)} {m : Str → Option Value}, (∀ v, (x, v) ∉ binds) → bindL kindOf binds m x = m x
  | [], _, _ => rfl
  | (n, v) :: r, m, h => by
    unfold bindL
    rw [bindL_out fun w hw => h w (List.mem_cons_of_mem _ hw)]
    split
    · have : x ≠ n := by rintro rfl; exact h v List.mem_cons_self
      simp [this]
    · rfl
theorem bindC_out {kindOf : Str → Option NameKind} {x : Str} : ∀ {binds : List (Str × Value)} {m : Str → Option Value}, (∀ v, (x, v) ∉ binds) → bindC kindOf binds m x = m x
  | [], _, _ => rfl
  | (n, v) :: r, m, h => by
    unfold bindC
    rw [bindC_out fun w hw => h w (List.mem_cons_of_mem _ hw)]
    split
    · rfl
    · have : x ≠ n := by rintro rfl; exact h v List.mem_cons_self
      simp [this]
theorem bindL_get {kindOf : Str → Option NameKind} {x : Str} {v : Value} : ∀ {P : List Str} {vs : List Value} {i : Nat} {m : Str → Option Value}, P.Nodup → P[i]? = some x → vs[i]? = some v → kindOf x = some .local →
    bindL kindOf (P.zip vs) m x = some v
  | [], _, _, _, _, h, _, _ => by simp at h
  | _ :: _, [], _, _, _, _, h, _ => by simp at h
  | p :: P, w :: vs, 0, m, nd, h1, h2, hk => by
    simp at h1 h2; subst h1; subst h2
    show bindL kindOf ((p, w) :: P.zip vs) m p = _
    unfold bindL
    rw [bindL_out fun v hv => (List.nodup_cons.mp nd).1 (List.of_mem_zip hv).1, if_pos hk]
    simp
  | p :: P, w :: vs, i + 1, m, nd, h1, h2, hk => by
    show bindL kindOf ((p, w) :: P.zip vs) m x = _
    unfold bindL
    exact bindL_get (i := i) (List.nodup_cons.mp nd).2 (by simpa using h1) (by simpa using h2) hk
theorem bindC_get {kindOf : Str → Option NameKind} {x : Str} {v : Value} : ∀ {P : List Str} {vs : List Value} {i : Nat} {m : Str → Option Value}, P.Nodup → P[i]? = some x → vs[i]? = some v → kindOf x ≠ some .local →
    bindC kindOf (P.zip vs) m x = some v
  | [], _, _, _, _, h, _, _ => by simp at h
  | _ :: _, [], _, _, _, _, h, _ => by simp at h
  | p :: P, w :: vs, 0, m, nd, h1, h2, hk => by
    simp at h1 h2; subst h1; subst h2
    show bindC kindOf ((p, w) :: P.zip vs) m p = _
    unfold bindC
    rw [bindC_out fun v hv => (List.nodup_cons.mp nd).1 (List.of_mem_zip hv).1, if_neg hk]
    simp
  | p :: P, w :: vs, i + 1, m, nd, h1, h2, hk => by
    show bindC kindOf ((p, w) :: P.zip vs) m x = _
    unfold bindC
    exact bindC_get (i := i) (List.nodup_cons.mp nd).2 (by simpa using h1) (by simpa using h2) hk
def start (N : List Str) (vs : List V) : St := vs.map some ++ List.replicate (N.length - vs.length) none
def cxOf (CX : CXT) (P : Program) (w : World) (K : PySem.W.Frag) (mg : Str → Option Value) (base : Heap) (N : List Str) (qual : Str) (scope : Scope) (f : Addr) (cd : Value) (A : Around) (outer : List Env) (s : Shared) (H : Hp) (E : XK) : Cx where
  prog := P
  w := w
  K := K
  mg := mg
  base := base
  A := A.deeper (envOfC qual scope s.heap.objs.size f cd)
  N := N
  s₀ := s
  H₀ := H
  env := envOfC qual scope s.heap.objs.size f cd
  outer := outer
  stack := envOfC qual scope s.heap.objs.size f cd :: outer
  ex := []
  calm := true
  fn := fun _ => true
  pn := []
  xe := fun e s' => wpAny (model P w) (A.deeper (envOfC qual scope s.heap.objs.size f cd)) (leaving (envOfC qual scope s.heap.objs.size f cd) e) (fun _ s'' => CX outer H s E e s'') (fun e' s'' => CX outer H s E e' s'') s'
theorem cell_has {sc : Scope} {n : Nat} {x : Str} (h : sc.names.lookup x = some .cell) : ∃ c, (cellsFrom n sc.names []).lookup x = some c := by
  have q := PySem.W.cellsFrom_some sc.names n [] (.inl h)
  exact Option.isSome_iff_exists.mp q
theorem inv_start {CX : CXT} {P : Program} {w : World} {K : PySem.W.Frag} {mg : Str → Option Value} {base : Heap} {N ps : List Str} {qual : Str} {scope : Scope} {f : Addr} {cd : Value} {A : Around} {outer : List Env} {s s1 : Shared} {H : Hp} {E : XK} {us : List Value} {vs : List V}
    (S : FnScope N ps scope) (hd : A.handled = none) (e0 : Env0 P w K mg base A outer s H) (hl : vs.length = ps.length) (r : Vals vs us)
    (x : InCallC s s.heap.objs.size (bindL (envOfC qual scope s.heap.objs.size f cd).kindOf (ps.zip us) fun _ => none) (cellsFrom (s.heap.objs.size + 1) scope.names []) (bindC (envOfC qual scope s.heap.objs.size f cd).kindOf (ps.zip us) fun _ => none) s1) :
    Inv (cxOf CX P w K mg base N qual scope f cd A outer s H E) [] (start N vs) H s1 := by
  have hpl : ps.length ≤ N.length := by have := congrArg List.length S.pre; rw [List.length_take] at this; omega
  obtain ⟨h1, tk, rfl, hk⟩ := x.done
  have noA : ∀ b : Addr, b ∉ (cxOf CX P w K mg base N qual scope f cd A outer s H E).ex := fun b z => absurd (show b ∈ ([] : List Addr) from z) (by simp)
  refine ⟨⟨e0.mod, S.kind, rfl, rfl, Nat.le_refl _, fun y z c h1 h2 => ?_, fun y hy => ?_, fun y c _ h => ?_, fun _ => hd, Around.frames_deeper e0.frames, .inr ⟨rfl, rfl⟩, fun b z => absurd z (noA b), e0.bs, e0.bsz, fun b _ _ => noA b, fun b z => absurd z (noA b), e0.funs, e0.frf⟩,
    rfl, e0.bare, Un.kept hk, ⟨_, x.toInCall.ns, fun i y v h1 h2 h3 => ?_⟩, fun y c h => ⟨_, x.cell y c h⟩, e0.hok.fresh (Nat.le_refl _), fun y c h => ?_, fun p hp => absurd (show p ∈ ([] : List (Addr × Obj)) from hp) (by simp), e0.hok.kept hk, ?_⟩
  · exact name_of_addr x.apart (PySem.mem_of_lookup h1) (PySem.mem_of_lookup h2)
  · have hy : scope.names.lookup y = some .cell ∨ scope.names.lookup y = some .free := hy
    rcases hy with hy | hy
    · exact cell_has hy
    · exact absurd rfl (S.nofree _ (PySem.mem_of_lookup hy))
  · exact Nat.le_of_lt (x.above y c (PySem.mem_of_lookup h))
  · have hi : i < vs.length := by
      unfold start at h2
      by_cases hi : i < vs.length
      · exact hi
      · rw [List.getElem?_append_right (by simpa using hi)] at h2
        rw [List.getElem?_replicate] at h2
        split at h2 <;> cases h2
    have ha : vs[i]? = some v := by
      unfold start at h2
      rw [List.getElem?_append_left (by simpa using hi), List.getElem?_map] at h2
      cases e : vs[i]? with
      | none => rw [e] at h2; cases h2
      | some a => rw [e] at h2; cases h2; rfl
    obtain ⟨u, hu, rv⟩ := r.get ha
    have hp : ps[i]? = some y := by
      rw [← S.pre, List.getElem?_take_of_lt (by omega)]; exact h1
    have ndP : ps.Nodup := by rw [← S.pre]; exact S.nd.sublist (List.take_sublist _ _)
    refine ⟨u, rv, ?_⟩
    rcases S.par y (List.mem_of_getElem? hp) with k | k
    · exact .inl ⟨k, bindL_get ndP hp hu k⟩
    · obtain ⟨c, e⟩ := cell_has (n := s.heap.objs.size + 1) k
      refine .inr ⟨.inl k, c, e, ?_⟩
      have q := x.cell y c e
      rw [bindC_get ndP hp hu (by show scope.names.lookup y ≠ _; rw [k]; decide)] at q
      exact q
  · exact e0.hok.fresh (Nat.le_of_lt (x.above y c (PySem.mem_of_lookup h)))
  · unfold start
    show _ = N.length
    rw [List.length_append, List.length_map, List.length_replicate]
    omega
theorem fn_of {CX : CXT} {P : Program} {w : World} {K : PySem.W.Frag} {mg : Str → Option Value} {base : Heap} {k : Nat} {f : Addr} {name qual : Str} {params : Arguments} {body : List Stmt} {scope : Scope} {dV kV doc pm cdv ct oc : Value} {an od : Option Addr}
    {osl : Array (Option Value)} {N ps : List Str} {sp : Sp} (lk : K.lookup f = some ⟨oc, od, .func (PySem.W.fnOf name qual params body scope dV kV doc pm an cdv ct), osl⟩) (hcd : PySem.W.codeIn K cdv qual = true) (S : FnScope N ps scope)
    (len : ∀ vs H Q E, sp vs H Q E → vs.length = ps.length)
    (hbody : ∀ (A : Around) (outer : List Env) (s : Shared) (H : Hp) (vs : List V) (Q : VK) (E : XK), Room k (A.deeper (envOfC qual scope s.heap.objs.size f cdv)) → sp vs H Q E →
      ∃ t, PSs (cxOf CX P w K mg base N qual scope f cdv A outer s H E) body t ∧ t { nx := fun _ H' => Q .non H', rt := Q } (start N vs) H) :
    FnOk P w K mg base CX (k + 1) f (PySem.W.fnOf name qual params body scope dV kV doc pm an cdv ct) ps sp := by
  refine ⟨len, fun A outer s H args us vs Q E hr e0 hb r hsp => ?_⟩
  have hl := len _ _ _ _ hsp
  have KX : K.In s.heap := e0.mod.kin.keeps fun b o e => (e0.bs b o e).1
  have lim : s.heap.NoLimit := e0.mod.nolimit.keeps fun b o e => (e0.bs b o e).1
  have hkind : ∀ y ∈ ps.zip us, scope.names.lookup y.1 = some .local ∨ (scope.names.lookup y.1 = some .cell ∧ ((cellsFrom (s.heap.objs.size + 1) scope.names []).lookup y.1).isSome = true) := fun ⟨n, v⟩ hy => by
    rcases S.par n (List.of_mem_zip hy).1 with q | q
    · exact .inl q
    · exact .inr ⟨q, PySem.W.cellsFrom_some _ _ _ (.inl q)⟩
  refine codeAny_call_function hr.depth (KX _ _ lk) rfl S.co S.gen rfl (PySem.W.codeRec_of KX hcd) (hb _ _ _ _ ?_)
  refine wpAny_newFunctionEnv_cells S.kind hkind fun env he s1 x => ?_
  subst he
  refine ⟨lim.keeps x.toInCall.keep, codeAny_func ?_⟩
  obtain ⟨t, ht, hq⟩ := hbody A outer s H vs Q E (hr.deeper _) hsp
  have I : Inv (cxOf CX P w K mg base N qual scope f cdv A outer s H E) [] (start N vs) H s1 := inv_start S hr.hd e0 hl r x
  refine wpAny_mono (ht [] s1 (start N vs) H _ I hq) (fun fl s' hs => ?_) fun e s' hs => hs
  have fin : ∀ {σ' : St} {H' : Hp} {v : V} {u : Value}, Inv (cxOf CX P w K mg base N qual scope f cdv A outer s H E) [] σ' H' s' → RelV v u → Q v H' → CE outer P w H s Q u s' :=
    fun {σ' H' v u} J rv q => ⟨v, H', J.os, J.bare, J.base, J.hok, rv, q⟩
  cases fl with
  | ret u =>
    obtain ⟨v, σ', H', J, rv, q⟩ := hs
    exact fin J rv q
  | next =>
    obtain ⟨σ', H', J, q⟩ := hs
    exact fin (v := V.non) (u := Value.none) J rfl q
  | brk =>
    obtain ⟨_, _, _, q⟩ := hs
    exact False.elim q
  | cont =>
    obtain ⟨_, _, _, q⟩ := hs
    exact False.elim q
end L2
namespace L2
open PySem PySem.Spec PyProof.Rows
section
variable {X : Cx} {x : Str} {p pos : Pos} {e : Expr} {es : List Expr} {t : TA} {id T : String} {r : List V → Hp → VK → Prop}
def tCB (r : List V → Hp → VK → Prop) (t : TA) : TE := fun σ H Q => t σ H fun vs H1 => r vs H1 Q
theorem pe_callB (hc : CallR X (.builtin id) r) (hg : Gl X x) (hm : X.mg x = none) (hv : bootBuiltins x = some (.builtin id)) (ha : PA X (e :: es) t) (hn : x ≠ "__name__" := by decide) (hdb : (x == ("__debug__" : Str)) = false := by decide)
    (he : starEach (e :: es) X.env = (false, eval e X.env) :: starEach es X.env := by rfl) (hpl : (backTo pos (starEach es X.env)).any (·.1) = false := by rfl) : PE X (.Call (.Name x p) (e :: es) [] pos) (tCB r t) := by
  intro pins s σ H Q I h
  refine wpAny_Call_Name_kw (ld_blt I hg hm hv ?_ hn hdb)
  exact PyProof.Rows.callWith_builtin1 (thn (ha pos pins s σ H _ I h) fun us s1 ⟨vs, H1, I1, r1, q1⟩ => hc pins s1 σ H1 vs us Q I1 r1 q1) he hpl
theorem pe_callTy (hc : CallR X (.type T) r) (hg : Gl X x) (hm : X.mg x = none) (hv : bootBuiltins x = some (.type T)) (ha : PA X (e :: es) t) (hn : x ≠ "__name__" := by decide) (hdb : (x == ("__debug__" : Str)) = false := by decide)
    (he : starEach (e :: es) X.env = (false, eval e X.env) :: starEach es X.env := by rfl) (hpl : (backTo pos (starEach es X.env)).any (·.1) = false := by rfl) : PE X (.Call (.Name x p) (e :: es) [] pos) (tCB r t) := by
  intro pins s σ H Q I h
  refine wpAny_Call_Name_kw (ld_blt I hg hm hv ?_ hn hdb)
  exact PyProof.Rows.callWith_type1 (thn (ha pos pins s σ H _ I h) fun us s1 ⟨vs, H1, I1, r1, q1⟩ => hc pins s1 σ H1 vs us Q I1 r1 q1) he hpl
end
end L2
namespace HT
open PySem PyProof.Rows
section
open PySem.SeqAt
open PySem.AutoSeq1 (wpAny_loadPart')
open PySem.MeetsSeq PySem.MeetsSeq2 PySem.MeetsSeq3
end
section
variable {prog : Program} {w : World} {A : Around} {E : Value → Shared → Prop} {s : Shared}
theorem cat_tup {t b : Addr} {vs ws : List Value} {Q : Value → Shared → Prop} (ht : IsTup s.heap t vs.toArray) (hb : IsTup s.heap b ws.toArray) (hv : vs ≠ [])
    (h1 : ws = [] → Q (.ref t) s) (h2 : ws ≠ [] → Q (.ref s.heap.objs.size) { s with heap := s.heap.push { cls := .type "tuple", data := .seq (vs ++ ws).toArray } })
    (hsz : vs.length + ws.length ≤ sizeLine) : wpAny (model prog w) A (binaryOp .Add (.ref t) (.ref b)) Q E s := by
  obtain ⟨⟨cls, dd, data, sl⟩, ho, hc, n, hd⟩ := id ht
  obtain ⟨⟨cls2, dd2, data2, sl2⟩, ho2, hc2, n2, hd2⟩ := id hb
  simp only at hc hd hc2 hd2
  subst hc hd hc2 hd2
  have e : vs.toArray ++ ws.toArray = (vs ++ ws).toArray := by simp
  by_cases hw : ws = []
  · exact concat_meets ⟨_, ho, rfl⟩ ⟨_, ho2, rfl⟩ noFill_tuple_add seq_tuple_add PySem.F.slot_tuple_add PySem.F.entry_tuple_add (PySem.F.args_tuple_add_2 _ _)
      (tuple_addW1 t b vs.toArray ws.toArray n n2 dd dd2 sl sl2 (by simpa using hv) (by simp [hw])) ⟨ho, ho2, h1 hw⟩
  · refine concat_meets ⟨_, ho, rfl⟩ ⟨_, ho2, rfl⟩ noFill_tuple_add seq_tuple_add PySem.F.slot_tuple_add PySem.F.entry_tuple_add (PySem.F.args_tuple_add_2 _ _)
      (tuple_addW2 t b vs.toArray ws.toArray n n2 dd dd2 sl sl2 (by simpa using hv) (by simpa using hw) (by rw [List.size_toArray, List.size_toArray]; exact hsz)) ⟨ho, ho2, ?_⟩
    rw [e]
    exact h2 hw
def sIx (n d : Nat) : Option Int → Nat
  | none => d
  | some v => if v < 0 then (v + (n : Int)).toNat else min v.toNat n
theorem sIx_nat (n d k : Nat) : sIx n d (some (k : Int)) = min k n := by
  show (if (k : Int) < 0 then ((k : Int) + (n : Int)).toNat else min (k : Int).toNat n) = min k n
  rw [if_neg (by omega), Int.toNat_natCast]
theorem sIx_le (n d : Nat) (hd : d ≤ n) (o : Option Int) : sIx n d o ≤ n := by
  cases o with
  | none => exact hd
  | some v =>
    show (if v < 0 then (v + (n : Int)).toNat else min v.toNat n) ≤ n
    by_cases hv : v < 0
    · rw [if_pos hv]; omega
    · rw [if_neg hv]; exact Nat.min_le_right _ _
theorem clip_eq (v : Int) (n d : Nat) : (if v < 0 then max (v + (n : Int)) 0 else min v (n : Int)) = ((sIx n d (some v) : Nat) : Int) := by
  show (if v < 0 then max (v + (n : Int)) 0 else min v (n : Int)) = (((if v < 0 then (v + (n : Int)).toNat else min v.toNat n) : Nat) : Int)
  by_cases hv : v < 0
  · simp only [if_pos hv]; omega
  · simp only [if_neg hv]; omega
theorem adjust_gen (lo hi : Option Int) (n : Nat) : Builtin.Slice.sliceAdjust lo hi 1 (n : Int) = (((sIx n 0 lo : Nat) : Int), ((sIx n n hi : Nat) : Int)) := by
  have h1 : ¬ ((1 : Int) < 0) := by omega
  unfold Builtin.Slice.sliceAdjust
  simp only [h1, if_false]
  refine Prod.ext ?_ ?_
  · cases lo with
    | none => rfl
    | some v => exact clip_eq v n 0
  · cases hi with
    | none => rfl
    | some v => exact clip_eq v n n
theorem places_gen (i j : Nat) : Builtin.Slice.slicePlaces (i : Int) (j : Int) 1 = j - i := by
  unfold Builtin.Slice.slicePlaces
  have h1 : (1 : Int) > 0 := by omega
  simp only [h1, if_true, Int.ediv_one]
  split <;> omega
theorem slicePart_ {v : Value} {o : Option Int} {Q : Option Int → Shared → Prop} (p : IsPart v o) (h : Q o s) : wpAny (model prog w) A (Builtin.Slice.slicePartIndex v) Q E s := by
  cases p with
  | none => exact slicePart_none h
  | int i t => exact slicePart_int h
theorem sliceApplied_gen {sl : Addr} {vl vu : Value} {lo hi : Option Int} {n : Nat} {Q : Int × Int × Nat → Shared → Prop} (hs : s.heap.IsSliceOf sl vl vu .none) (pl : IsPart vl lo) (pu : IsPart vu hi)
    (h : Q (((sIx n 0 lo : Nat) : Int), 1, sIx n n hi - sIx n 0 lo) s) : wpAny (model prog w) A (Builtin.Slice.sliceApplied (.ref sl) (pure (n : Int))) Q E s := by
  obtain ⟨os, hos, hcs, hds⟩ := id hs
  unfold Builtin.Slice.sliceApplied Builtin.Slice.sliceFields
  refine wpAny_bind (wpAny_bind (wpAny_field hos hds (x := vl) rfl (wpAny_bind (wpAny_field hos hds (x := vu) rfl (wpAny_bind (wpAny_field hos hds (x := .none) rfl (wpAny_pure ?_)))))))
  refine wpAny_bind (slicePart_none ?_)
  show wpAny _ _ (if ((1 : Int) == 0) = true then _ else _) _ _ s
  rw [if_neg (by decide)]
  refine wpAny_bind (slicePart_ pl (wpAny_bind (slicePart_ pu (wpAny_bind (wpAny_pure ?_)))))
  show wpAny _ _ (match Builtin.Slice.sliceAdjust lo hi 1 (n : Int) with | (lo, hi) => pure (lo, (1 : Int), Builtin.Slice.slicePlaces lo hi 1)) _ _ s
  rw [adjust_gen lo hi n]
  show wpAny _ _ (pure (((sIx n 0 lo : Nat) : Int), (1 : Int), Builtin.Slice.slicePlaces ((sIx n 0 lo : Nat) : Int) ((sIx n n hi : Nat) : Int) 1)) _ _ s
  rw [places_gen]
  exact wpAny_pure h
theorem pick_gen (xs : Array Value) (i k : Nat) : ((List.range k).filterMap fun (m : Nat) => xs[((i : Int) + (m : Int) * 1).toNat]?).toArray = ((xs.toList.drop i).take k).toArray := by
  have e : (fun (m : Nat) => xs[((i : Int) + (m : Int) * 1).toNat]?) = fun m => xs[i + m]? := by
    funext m
    have : ((i : Int) + (m : Int) * 1).toNat = i + m := by omega
    rw [this]
  rw [e]
  have := pick_run xs i k
  rw [List.filterMap_map] at this
  have e2 : ((fun x => xs[x]?) ∘ fun x => i + x) = fun m => xs[i + m]? := rfl
  rw [e2] at this
  rw [this]
theorem getItem_tuple_cut {t sl : Addr} {items : Array Value} {vl vu : Value} {lo hi : Option Int} {Q : Value → Shared → Prop} (ht : IsTup s.heap t items) (hs : s.heap.IsSliceOf sl vl vu .none) (pl : IsPart vl lo) (pu : IsPart vu hi)
    (hw : ¬ (sIx items.size 0 lo = 0 ∧ sIx items.size items.size hi = items.size))
    (h : Q (.ref s.heap.objs.size) { s with heap := s.heap.push { cls := .type "tuple", data := .seq ((items.toList.drop (sIx items.size 0 lo)).take (sIx items.size items.size hi - sIx items.size 0 lo)).toArray } })
    (hsz : items.size ≤ sizeLine) : wpAny (model prog w) A (getItem (.ref t) (.ref sl)) Q E s := by
  have htake : sizeOk (.seq ((items.toList.drop (sIx items.size 0 lo)).take (sIx items.size items.size hi - sIx items.size 0 lo)).toArray) := by
    show ((items.toList.drop (sIx items.size 0 lo)).take (sIx items.size items.size hi - sIx items.size 0 lo)).toArray.size ≤ sizeLine
    rw [List.size_toArray, List.length_take, List.length_drop, Array.length_toList]
    omega
  have hj : sIx items.size items.size hi ≤ items.size := sIx_le _ _ (Nat.le_refl _) hi
  obtain ⟨os, hos, hcs, hds⟩ := id hs
  have hTs : s.TypeIs (.ref sl) "slice" := ⟨os, hos, hcs⟩
  unfold getItem
  try with_reducible refine wpAny_holding ?_
  first | refine wpAny_bind (wpAny_pure ?_) | skip
  refine wpAny_bind (wpAny_sequenceKey ht.typeIs (by decide) ?_)
  refine wpAny_bind (wpAny_callSpecial?_slot (name := Str.ofString "__getitem__") ht.typeIs PyProof.Rows.slot_tuple_getitem
    (wpAny_call_entry PyProof.Rows.slot_tuple_getitem ht.typeIs entry_tuple_getitem ?_ (args_tuple_getitem _ _)))
  show wpAny _ _ (Builtin.Tuple.tupleItemsOf (.ref t) >>= _) _ _ s
  refine wpAny_bind (tupleItemsOf_ ht ?_)
  refine wpAny_bind (wpAny_typeOf hTs ?_)
  rw [if_pos (by decide)]
  refine wpAny_bind (sliceApplied_gen hs pl pu ?_)
  have hno : ¬ ((((sIx items.size 0 lo : Nat) : Int) == 0 && (1 : Int) == 1 && (sIx items.size items.size hi - sIx items.size 0 lo) == items.size) = true) := by
    intro q
    rw [Bool.and_eq_true, Bool.and_eq_true] at q
    have q1 : ((sIx items.size 0 lo : Nat) : Int) = 0 := eq_of_beq q.1.1
    have q2 : sIx items.size items.size hi - sIx items.size 0 lo = items.size := eq_of_beq q.2
    exact hw ⟨by omega, by omega⟩
  show wpAny _ _ (if (((sIx items.size 0 lo : Nat) : Int) == 0 && (1 : Int) == 1 && (sIx items.size items.size hi - sIx items.size 0 lo) == items.size) = true then _ else _) _ _ s
  rw [if_neg hno, pick_gen]
  first
    | exact wpAny_bind (m := Builtin.Tuple.tupleExact _) (wpAny_newObj_type (wpAny_pure ⟨_, rfl, wpAny_pure h⟩) htake)
    | exact wpAny_bind (m := Builtin.Tuple.tupleExact _) (wpAny_newObj_type (wpAny_bind (wpAny_pure (wpAny_pure ⟨_, rfl, wpAny_pure h⟩))) htake)
    | exact wpAny_bind (wpAny_bind (m := Builtin.Tuple.tupleExact _) (wpAny_newObj_type (wpAny_pure (wpAny_pure ⟨_, rfl, wpAny_pure h⟩)) htake))
    | exact wpAny_bind (wpAny_bind (m := Builtin.Tuple.tupleExact _) (wpAny_newObj_type (wpAny_pure ⟨_, rfl, wpAny_pure h⟩) htake))
end
end HT
namespace L2
open PySem PySem.Spec PyProof.Rows
abbrev TO := St → Hp → (Option Int → Hp → Prop) → Prop
def PO (X : Cx) (e : Option Expr) (t : TO) : Prop :=
  ∀ (pins : List (Addr × Obj)) (s : Shared) (σ : St) (H : Hp) (Q : Option Int → Hp → Prop), Inv X pins σ H s → t σ H Q →
    wpAny (model X.prog X.w) X.A (evalPart e X.env) (fun u s' => ∃ o H', Inv X pins σ H' s' ∧ IsPart u o ∧ Q o H') X.xe s
def tPart (t : TE) : TO := fun σ H Q => t σ H fun x H1 => ∃ i, x = .int i ∧ Q (some i) H1
section
variable {X : Cx} {e : Expr} {te : TE} {lo hi : Option Expr} {tl th : TO} {pos p2 : Pos}
theorem po_some (h : PE X e te) : PO X (some e) (tPart te) := by
  intro pins s σ H Q I hw
  rw [evalPart_some]
  refine thn (h pins s σ H _ I hw) fun u s1 ⟨x, H1, I1, r1, q1⟩ => ?_
  obtain ⟨i, rfl, q⟩ := q1
  obtain ⟨t, rfl⟩ := r1
  exact ⟨some i, H1, I1, .int i t, q⟩
def SlR (X : Cx) (r : V → Option Int → Option Int → Hp → VK → Prop) : Prop :=
  ∀ (pins : List (Addr × Obj)) (s : Shared) (σ : St) (H : Hp) (x : V) (v vl vu : Value) (lo hi : Option Int) (sl : Addr) (Q : VK), Inv X pins σ H s → RelV x v → s.heap.IsSliceOf sl vl vu .none → IsPart vl lo → IsPart vu hi → r x lo hi H Q →
    ∃ T id, typeLookup (.type T) "__getitem__" = pure (some (.builtin id)) ∧ s.TypeIs v T ∧ wpAny (model X.prog X.w) X.A (getItem v (.ref sl)) (EP X pins σ Q) X.xe s
def tSl (r : V → Option Int → Option Int → Hp → VK → Prop) (te : TE) (tl th : TO) : TE := fun σ H Q => te σ H fun x H1 => tl σ H1 fun l H2 => th σ H2 fun u H3 => r x l u H3 Q
theorem pe_slice {r : V → Option Int → Option Int → Hp → VK → Prop} (hr : SlR X r) (he : PE X e te) (hl : PO X lo tl) (hu : PO X hi th) : PE X (.Subscript e (.Slice lo hi none p2) pos) (tSl r te tl th) := by
  intro pins s σ H Q I h
  refine Subscript_ (thn (he pins s σ H _ I h) fun v s1 ⟨x, H1, I1, r1, q1⟩ => ?_)
  refine wpAny_Slice (thn (hl pins s1 σ H1 _ I1 q1) fun vl s2 ⟨l, H2, I2, pl, q2⟩ => thn (hu pins s2 σ H2 _ I2 q2) fun vu s3 ⟨u, H3, I3, pu, q3⟩ => ?_)
  rw [evalPart_none]
  refine wpAny_pure ?_
  have I4 : Inv X pins σ H3 { s3 with heap := s3.heap.push { cls := .type "slice", data := .fields #[vl, vu, .none] } } := I3.kept (t' := s3.toks) fun b ob q => Heap.get?_push_of_some _ q
  obtain ⟨T, id, hT, ht, hg⟩ := hr pins { s3 with heap := s3.heap.push { cls := .type "slice", data := .fields #[vl, vu, .none] } } σ H3 x v vl vu l u s3.heap.objs.size Q I4 r1 (Heap.IsSliceOf.new ..) pl pu q3
  show wpAny (model X.prog X.w) X.A (subscriptTail e (.Slice lo hi none p2) v (.ref s3.heap.objs.size)) (EP X pins σ Q) X.xe { s3 with heap := s3.heap.push { cls := .type "slice", data := .fields #[vl, vu, .none] } }
  exact tail_any (ops := [.ref s3.heap.objs.size, v]) ht hT hg (by with_unfolding_all rfl)
def cutV (xs : List V) (lo hi : Option Int) : List V := (xs.drop (HT.sIx xs.length 0 lo)).take (HT.sIx xs.length xs.length hi - HT.sIx xs.length 0 lo)
theorem cutV_length (xs : List V) (lo hi : Option Int) : (cutV xs lo hi).length ≤ xs.length := by
  unfold cutV
  rw [List.length_take, List.length_drop]
  omega
def rSlT (K : PySem.W.Frag) : V → Option Int → Option Int → Hp → VK → Prop := fun x lo hi H Q => ∃ a xs, x = .ref a ∧ SqT K H a xs ∧
  ¬ (HT.sIx xs.length 0 lo = 0 ∧ HT.sIx xs.length xs.length hi = xs.length) ∧ ∀ p, H p = none → Q (.ref p) (upd H p (.tup (cutV xs lo hi)))
theorem sl_tup : SlR X (rSlT X.K) := by
  intro pins s σ H x v vl vu lo hi sl Q I rx hs pl pu h
  obtain ⟨a, xs, rfl, hx, hw, q⟩ := h
  cases rx
  obtain ⟨its, r, ht, hz⟩ := I.tuple hx
  have hlen : its.toArray.size = xs.length := by rw [List.size_toArray]; exact r.length.symm
  refine ⟨"tuple", _, PyProof.Rows.slot_tuple_getitem.lookup, ht.typeIs, ?_⟩
  refine HT.getItem_tuple_cut ht hs pl pu (by rw [hlen]; exact hw) ?_ (by rw [hlen]; exact hz)
  rw [hlen]
  refine ⟨.ref s.heap.objs.size, _, I.laid (t' := s.toks) (o := .tup (cutV xs lo hi)) (fun b ob q => Heap.get?_push_of_some _ q) (Nat.le_refl _) ?_, rfl, q _ (I.hok.fresh (Nat.le_refl _))⟩
  exact ⟨Nat.le_trans (cutV_length xs lo hi) hz, _, (r.drop (HT.sIx xs.length 0 lo)).take (HT.sIx xs.length xs.length hi - HT.sIx xs.length 0 lo), IsTup.new _ _⟩
def rCatT (K : PySem.W.Frag) : R2 := fun x y H Q => ∃ a b xs ys, x = .ref a ∧ y = .ref b ∧ SqT K H a xs ∧ SqT K H b ys ∧ xs ≠ [] ∧ xs.length + ys.length ≤ sizeLine ∧
  (ys = [] → Q (.ref a) H) ∧ (ys ≠ [] → ∀ p, H p = none → Q (.ref p) (upd H p (.tup (xs ++ ys))))
theorem Vals.nil_iff {xs : List V} {us : List Value} (r : Vals xs us) : us = [] ↔ xs = [] := by
  cases r with
  | nil => simp
  | cons _ _ => simp
theorem op_catT : OpR X (binaryOp .Add) (rCatT X.K) := by
  intro pins s σ H x y v u Q I rx ry h
  obtain ⟨a, b, xs, ys, rfl, rfl, ha, hb, hx, hz, q1, q2⟩ := h
  cases rx
  cases ry
  obtain ⟨its, r1, p1, _⟩ := I.tuple ha
  obtain ⟨its2, r2, p2, _⟩ := I.tuple hb
  refine HT.cat_tup p1 p2 (fun z => hx (r1.nil_iff.mp z)) (fun z => ⟨.ref a, H, I, rfl, q1 (r2.nil_iff.mp z)⟩) (fun z => ?_) (by rw [← r1.length, ← r2.length]; exact hz)
  refine ⟨.ref s.heap.objs.size, _, I.laid (t' := s.toks) (o := .tup (xs ++ ys)) (fun b ob q => Heap.get?_push_of_some _ q) (Nat.le_refl _) ?_, rfl, q2 (fun w => z (r2.nil_iff.mpr w)) _ (I.hok.fresh (Nat.le_refl _))⟩
  exact ⟨by rw [List.length_append]; exact hz, _, r1.append r2, IsTup.new _ _⟩
end
end L2
namespace L2
open PySem PySem.Spec PyProof.Rows
def ixN (n : Nat) (i : Int) : Option Nat := if 0 ≤ i then (if i < n then some i.toNat else none) else if -(n : Int) ≤ i then some (i + n).toNat else none
def atI {α : Type} (xs : List α) (i : Int) : Option α := (ixN xs.length i).bind fun j => xs[j]?
theorem ixN_seq {n : Nat} {i : Int} {j : Nat} (h : ixN n i = some j) : seqIndex? i n = some j ∧ j < n ∧ -(n : Int) ≤ i ∧ i < n := by
  unfold ixN at h
  by_cases h0 : 0 ≤ i
  · rw [if_pos h0] at h
    by_cases h1 : i < n
    · rw [if_pos h1] at h
      have e : i.toNat = j := Option.some.inj h
      exact ⟨by rw [seqIndex_of h0 h1, e], by omega, by omega, h1⟩
    · rw [if_neg h1] at h; cases h
  · rw [if_neg h0] at h
    by_cases h1 : -(n : Int) ≤ i
    · rw [if_pos h1] at h
      have e : (i + n).toNat = j := Option.some.inj h
      exact ⟨by rw [seqIndex_neg (by omega) h1, e], by omega, h1, by omega⟩
    · rw [if_neg h1] at h; cases h
theorem atI_get {α : Type} {xs : List α} {i : Int} {v : α} (h : atI xs i = some v) : ∃ j, seqIndex? i xs.length = some j ∧ xs[j]? = some v ∧ j < xs.length ∧ -(xs.length : Int) ≤ i ∧ i < xs.length := by
  unfold atI at h
  cases e : ixN xs.length i with
  | none => rw [e] at h; cases h
  | some j =>
    rw [e] at h
    obtain ⟨h1, h2, h3, h4⟩ := ixN_seq e
    exact ⟨j, h1, h, h2, h3, h4⟩
def PlainIx (b : Expr) : Prop := ∀ o i, subscripted b false o i = operate [o, i] (getItem o i)
def IxR (X : Cx) (r : R2) : Prop :=
  ∀ (value slice : Expr) (pins : List (Addr × Obj)) (s : Shared) (σ : St) (H : Hp) (x y : V) (v u : Value) (Q : VK), Inv X pins σ H s → RelV x v → RelV y u → r x y H Q →
    subscripted slice false v u = operate [v, u] (getItem v u) → wpAny (model X.prog X.w) X.A (subscriptTail value slice v u) (EP X pins σ Q) X.xe s
def MtR (X : Cx) (id : String) (r : V → List V → Hp → VK → Prop) : Prop :=
  ∀ (pins : List (Addr × Obj)) (s : Shared) (σ : St) (H : Hp) (x : V) (xs : List V) (v : Value) (us : List Value) (Q : VK), Inv X pins σ H s → RelV x v → Vals xs us → r x xs H Q →
    wpAny (model X.prog X.w) X.A (call (.builtin id) (v :: us)) (EP X pins σ Q) X.xe s
section
variable {X : Cx} {a b : Expr} {ta tb : TE} {pos : Pos}
theorem pe_ix {r : R2} (hr : IxR X r) (ha : PE X a ta) (hb : PE X b tb) (hs : PlainIx b) : PE X (.Subscript a b pos) (tOp r ta tb) := by
  intro pins s σ H Q I h
  exact Subscript_ (binT ha hb I h fun v u s2 x y H2 I2 rx ry q => hr a b pins s2 σ H2 x y v u Q I2 rx ry q (hs _ _))
def rIxL (K : PySem.W.Frag) : R2 := fun x y H Q => ∃ p xs i v, x = .ref p ∧ y = .int i ∧ SqL K H p xs ∧ atI xs i = some v ∧ Q v H
def rIxT (K : PySem.W.Frag) : R2 := fun x y H Q => ∃ p xs i v, x = .ref p ∧ y = .int i ∧ SqT K H p xs ∧ atI xs i = some v ∧ Q v H
def rIxS : R2 := fun x y H Q => ∃ z i c, x = .str z ∧ y = .int i ∧ z.length ≤ sizeLine ∧ atI z.cps.toList i = some c ∧ Q (.str ⟨#[c]⟩) H
theorem ix_list : IxR X (rIxL X.K) := by
  intro value slice pins s σ H x y v u Q I rx ry h hs
  obtain ⟨p, xs, i, z, rfl, rfl, hq, he, q⟩ := h
  cases rx
  obtain ⟨t, rfl⟩ := ry
  obtain ⟨its, r, pl, hz⟩ := I.list hq
  obtain ⟨j, h1, h2, h3, h4, h5⟩ := atI_get he
  obtain ⟨w, ew, rw'⟩ := r.get h2
  have hl := r.length
  have hn := line63
  have fin : EP X pins σ Q w s := ⟨z, H, I, rw', q⟩
  by_cases h0 : 0 ≤ i
  · have hj : i.toNat = j := by
      rw [seqIndex_of h0 h5] at h1
      exact Option.some.inj h1
    exact item_listR pl.isList h0 (by omega) (by rw [hj]; simpa using ew) fin hs
  · have hj : (i + (its.toArray.size : Int)).toNat = j := by
      rw [seqIndex_neg (by omega) h4] at h1
      rw [List.size_toArray, ← hl]
      exact Option.some.inj h1
    exact subscriptTail_builtinR (x := w) pl.isList.typeIs slot_list_getitem.lookup
      (wpAny_getItem_list_neg (Q := fun r s' => r = w ∧ EP X pins σ Q r s') pl.isList (by omega) (by rw [List.size_toArray] <;> omega) (by omega) (by rw [hj]; simpa using ew) ⟨rfl, fin⟩) hs
theorem ix_tup : IxR X (rIxT X.K) := by
  intro value slice pins s σ H x y v u Q I rx ry h hs
  obtain ⟨p, xs, i, z, rfl, rfl, hq, he, q⟩ := h
  cases rx
  obtain ⟨t, rfl⟩ := ry
  obtain ⟨its, r, pl, hz⟩ := I.tuple hq
  obtain ⟨j, h1, h2, h3, h4, h5⟩ := atI_get he
  obtain ⟨w, ew, rw'⟩ := r.get h2
  have hl := r.length
  have hn := line63
  have fin : EP X pins σ Q w s := ⟨z, H, I, rw', q⟩
  exact subscriptTail_builtinR (x := w) pl.typeIs slot_tuple_getitem.lookup
    (getItem_tuple (j := j) (Q := fun r s' => r = w ∧ EP X pins σ Q r s') pl (by omega) (by omega) (by rw [List.size_toArray, ← hl]; exact h1) (by simpa using ew) ⟨rfl, fin⟩) hs
theorem ix_str : IxR X rIxS := by
  intro value slice pins s σ H x y v u Q I rx ry h hs
  obtain ⟨z, i, c, rfl, rfl, hz, he, q⟩ := h
  obtain ⟨t, rfl⟩ := rx
  obtain ⟨t', rfl⟩ := ry
  obtain ⟨j, h1, h2, h3, h4, h5⟩ := atI_get he
  have hl : z.cps.toList.length = z.length := by simp [Str.length]
  rw [hl] at h1 h4 h5
  have hn := line63
  exact tail_any (typeIs_str s z t) slot_str_getitem.lookup (getItem_str (c := c) (by
    have e1 : decide (i < -(2 ^ 63 : Int)) = false := decide_eq_false (by omega)
    have e2 : decide (i ≥ 2 ^ 63) = false := decide_eq_false (by omega)
    rw [e1, e2, Bool.or_false]) (by rw [h1]; simpa using h2) ⟨.str ⟨#[c]⟩, H, I.tok _, ⟨_, rfl⟩, q⟩) hs
theorem slice_bounds (lo hi : Option Int) (n : Nat) : (sliceBounds lo hi none n).1 = ((HT.sIx n 0 lo : Nat) : Int) ∧ (sliceBounds lo hi none n).2.1 = ((HT.sIx n n hi : Nat) : Int) ∧ (sliceBounds lo hi none n).2.2 = 1 := by
  refine ⟨?_, ?_, rfl⟩
  · cases lo with
    | none => simp [sliceBounds, HT.sIx]
    | some i =>
      simp only [sliceBounds, HT.sIx, Option.getD_none, show (1 : Int) > 0 by decide, if_true]
      by_cases h : i < 0
      · simp only [h, if_true] <;> omega
      · simp only [h, if_false] <;> omega
  · cases hi with
    | none => simp [sliceBounds, HT.sIx]
    | some i =>
      simp only [sliceBounds, HT.sIx, Option.getD_none, show (1 : Int) > 0 by decide, if_true]
      by_cases h : i < 0
      · simp only [h, if_true] <;> omega
      · simp only [h, if_false] <;> omega
theorem slicePick_cut (its : List Value) (lo hi : Option Int) : slicePick its.toArray lo hi none = ((its.drop (HT.sIx its.length 0 lo)).take (HT.sIx its.length its.length hi - HT.sIx its.length 0 lo)).toArray := by
  obtain ⟨h1, h2, h3⟩ := slice_bounds lo hi its.toArray.size
  unfold slicePick
  rw [h1, h2, h3]
  simp only [sliceRange_one, pick_run, List.size_toArray] <;> rfl
def rSlL (K : PySem.W.Frag) : V → Option Int → Option Int → Hp → VK → Prop := fun x lo hi H Q => ∃ a xs, x = .ref a ∧ SqL K H a xs ∧ ∀ p, H p = none → Q (.ref p) (upd H p (.lst (cutV xs lo hi)))
theorem sl_list : SlR X (rSlL X.K) := by
  intro pins s σ H x v vl vu lo hi sl Q I rx hs pl pu h
  obtain ⟨a, xs, rfl, hx, q⟩ := h
  cases rx
  obtain ⟨its, r, ht, hz⟩ := I.list hx
  have hlen := r.length
  refine ⟨"list", _, slot_list_getitem.lookup, ht.isList.typeIs, ?_⟩
  refine wpAny_getItem_list_slice ht.isList hs pl pu .none (by simp) ?_ (by rw [List.size_toArray] <;> omega)
  rw [slicePick_cut, ← hlen]
  refine ⟨.ref s.heap.objs.size, _, I.laid (t' := s.toks) (o := .lst (cutV xs lo hi)) (fun b ob q => Heap.get?_push_of_some _ q) (Nat.le_refl _) ?_, rfl, q _ (I.hok.fresh (Nat.le_refl _))⟩
  exact ⟨Nat.le_trans (cutV_length xs lo hi) hz, _, 0, (r.drop (HT.sIx xs.length 0 lo)).take (HT.sIx xs.length xs.length hi - HT.sIx xs.length 0 lo), Heap.get?_push_size _ rfl⟩
def eqV : V → V → Bool
  | .non, .non => true
  | .bl a, .bl b => a == b
  | .bl a, .int b => (if a then 1 else 0) == b
  | .int a, .bl b => a == (if b then 1 else 0)
  | .int a, .int b => a == b
  | .str a, .str b => a == b
  | _, _ => false
theorem call_list_of : CallR X (.type "list") (fun xs H Q => ∃ p ys, xs = [.ref p] ∧ (SqL X.K H p ys ∨ SqT X.K H p ys) ∧ ∀ l, H l = none → Q (.ref l) (upd H l (.lst ys))) := by
  intro pins s σ H xs us Q I r h
  obtain ⟨p, ys, rfl, hq, q⟩ := h
  obtain ⟨u, rfl, rx⟩ := vals1 r
  cases rx
  have fin : ∀ (its : List Value), Vals ys its → ys.length ≤ sizeLine → ∀ (h' : Heap) (c' : Nat), (∀ b o', s.heap.get? b = some o' → h'.get? b = some o') →
      h'.get? s.heap.objs.size = some { cls := .type "list", dict := none, data := .seq its.toArray c', slots := #[] } → EP X pins σ Q (.ref s.heap.objs.size) { s with heap := h' } := fun its r' hz h' c' kp e =>
    ⟨.ref s.heap.objs.size, _, I.laid (t' := s.toks) kp (Nat.le_refl _) (show ObjOk X.prog X.w _ h' _ (.lst ys) from ⟨hz, its, c', r', e⟩), rfl, q _ (I.hok.fresh (Nat.le_refl _))⟩
  rcases hq with hq | hq
  · obtain ⟨its, r', pl, hz⟩ := I.list hq
    have hlen := r'.length
    obtain ⟨o, ho, hc, n, hd⟩ := pl.isList
    exact call_list_seq p (.inl rfl) ho hc hd (fun h' c' kp e => fin its r' hz h' c' kp e) (by simp only [List.size_toArray] <;> omega)
  · obtain ⟨its, r', pl, hz⟩ := I.tuple hq
    have hlen := r'.length
    obtain ⟨o, ho, hc, n, hd⟩ := pl
    exact call_list_seq p (.inr rfl) ho hc hd (fun h' c' kp e => fin its r' hz h' c' kp e) (by simp only [List.size_toArray] <;> omega)
def tyV (K : PySem.W.Frag) (T : String) (x : V) (H : Hp) : Prop := match x with
  | .str _ => T = "str"
  | .int _ => T = "int"
  | .ref p => (T = "list" ∧ ∃ xs, SqL K H p xs) ∨ (T = "tuple" ∧ ∃ o, K.lookup p = some o ∧ o.cls = .type "tuple" ∧ o.dict = none) ∨
      (T = "dict" ∧ ((∃ kvs, H p = some (.dK kvs)) ∨ ∃ kvs, H p = some (.dT kvs))) ∨ (T = "set" ∧ ∃ S n, H p = some (.set S n))
  | _ => False
theorem tyV_is {pins : List (Addr × Obj)} {σ : St} {H : Hp} {s : Shared} {T : String} {x : V} {v : Value} (I : Inv X pins σ H s) (r : RelV x v) (ty : tyV X.K T x H) :
    s.TypeIs v T ∧ ∀ a, v = .ref a → ∃ ob, s.heap.get? a = some ob ∧ ob.dict = none := by
  cases x with
  | str z =>
    obtain ⟨t, rfl⟩ := r
    cases (show T = "str" from ty)
    exact ⟨typeIs_str s z t, fun _ e => nomatch e⟩
  | int i =>
    obtain ⟨t, rfl⟩ := r
    cases (show T = "int" from ty)
    exact ⟨typeIs_int s i t, fun _ e => nomatch e⟩
  | ref p =>
    cases r
    rcases ty with ⟨rfl, xs, hq⟩ | ⟨rfl, o, hk, hc, hd⟩ | ⟨rfl, hk⟩ | ⟨rfl, S, n, hk⟩
    · obtain ⟨its, _, pl, _⟩ := I.list hq
      refine ⟨pl.isList.typeIs, fun a e => ?_⟩
      cases e
      obtain ⟨o, n, e, c, hd, _⟩ := pl
      exact ⟨o, e, hd⟩
    · refine ⟨⟨o, I.kIn p o hk, hc⟩, fun a e => ?_⟩
      cases e
      exact ⟨o, I.kIn _ o hk, hd⟩
    · have z : ∃ o, s.heap.get? p = some o ∧ o.ExactDict := by
        rcases hk with ⟨kvs, hk⟩ | ⟨kvs, hk⟩
        · obtain ⟨_, _, _, _, o, _, _, e, ex, _⟩ := I.hok p _ hk
          exact ⟨o, e, ex⟩
        · obtain ⟨_, _, _, _, o, _, _, e, ex, _⟩ := I.hok p _ hk
          exact ⟨o, e, ex⟩
      obtain ⟨o, e, ex⟩ := z
      refine ⟨⟨o, e, ex.1⟩, fun a e2 => ?_⟩
      cases e2
      exact ⟨o, e, ex.2.1⟩
    · obtain ⟨o, _, _, _, e, ex, _⟩ := I.hok p _ hk
      refine ⟨⟨o, e, ex.1⟩, fun a e2 => ?_⟩
      cases e2
      exact ⟨o, e, ex.2.1⟩
  | _ => exact False.elim ty
def tBM0 (K : PySem.W.Frag) (T : String) (r : V → List V → Hp → VK → Prop) (to : TE) : TE := fun σ H Q => to σ H fun x H1 => tyV K T x H1 ∧ r x [] H1 Q
def tBM (K : PySem.W.Frag) (T : String) (r : V → List V → Hp → VK → Prop) (to : TE) (t : TA) : TE := fun σ H Q => to σ H fun x H1 => tyV K T x H1 ∧ t σ H1 fun xs H2 => r x xs H2 Q
variable {o e : Expr} {es : List Expr} {to : TE} {t : TA} {name : Str} {apos cpos : Pos} {T id : String} {r : V → List V → Hp → VK → Prop}
theorem pe_bm0 (pa : PlainAttrs T) (slot : Slot T name id) (hty : typeOf (.builtin id) = pure (.type "method_descriptor")) (hm : MtR X id r) (ho : PE X o to)
    (hbase : attributeBase o name X.env (eval o X.env) = eval o X.env := by rfl) (hline : (apos.endLine == cpos.line) = true := by rfl) : PE X (.Call (.Attribute o name apos) [] [] cpos) (tBM0 X.K T r to) := by
  intro pins s σ H Q I h
  refine wpAny_Call_method0_late hbase hline (thn (ho pins s σ H _ I h) fun v s1 ⟨x, H1, I1, r1, ty, q1⟩ => ?_)
  obtain ⟨h1, h2⟩ := tyV_is I1 r1 ty
  exact ⟨T, id, pa, slot, hty, h1, h2, Calls.callWith_builtin rfl (PySem.evalArgs_none (hm pins s1 σ H1 x [] v [] Q I1 r1 .nil q1))⟩
theorem pe_bm (pa : PlainAttrs T) (slot : Slot T name id) (hty : typeOf (.builtin id) = pure (.type "method_descriptor")) (hm : MtR X id r) (ho : PE X o to) (ha : PA X (e :: es) t)
    (hbase : attributeBase o name X.env (eval o X.env) = eval o X.env := by rfl)
    (hfew : ((backTo cpos (starEach (e :: es) X.env)).all (fun x => !x.1) && (backToKw cpos (keywordEach [] X.env)).all (fun x => x.1.isSome)
      && decide ((e :: es).length + ([] : List Keyword).length + (if ([] : List Keyword).isEmpty then 0 else 1) < 30)) = true := by rfl)
    (hline : (apos.endLine == cpos.line) = true := by rfl) (hs : starEach (e :: es) X.env = (false, eval e X.env) :: starEach es X.env := by rfl) (hplain : (backTo cpos (starEach es X.env)).any (·.1) = false := by rfl) :
    PE X (.Call (.Attribute o name apos) (e :: es) [] cpos) (tBM X.K T r to t) := by
  intro pins s σ H Q I h
  refine wpAny_Call_method_late hbase hfew hline rfl (thn (ho pins s σ H _ I h) fun v s1 ⟨x, H1, I1, r1, ty, q1⟩ => ?_)
  obtain ⟨h1, h2⟩ := tyV_is I1 r1 ty
  refine ⟨T, id, pa, slot, hty, h1, h2, ?_⟩
  have hA := ha cpos pins s1 σ H1 _ I1 q1
  rw [hs] at hA ⊢
  refine Calls.callWith_builtin (by show (false || (backTo cpos (starEach es X.env)).any (·.1)) = false; rw [hplain] <;> rfl) (Calls.evalArgs_plain ?_)
  exact thn hA fun us s2 ⟨vs, H2, I2, r2, q2⟩ => hm pins s2 σ H2 x vs v us Q I2 r1 r2 q2
/- xs.append(e), list.index on a module's tuple .. are MtR facts of 06m -/
end
end L2
namespace L2
open PySem PySem.Spec PyProof.Rows
def MtM (X : Cx) (id : String) (r : V → List V → Hp → VK → Prop) : Prop :=
  ∀ (pins : List (Addr × Obj)) (s : Shared) (σ : St) (H : Hp) (x : V) (xs : List V) (v : Value) (us : List Value) (Q : VK), Inv X pins σ H s → RelV x v → Vals xs us → r x xs H Q →
    wpAny (model X.prog X.w) X.A (call (.builtin id) (v :: us)) (EP X pins σ Q) X.xe s
theorem Vals.one : ∀ {x : V} {us : List Value}, Vals [x] us → ∃ u, us = [u] ∧ RelV x u
  | _, _, .cons r .nil => ⟨_, rfl, r⟩
theorem Vals.zero : ∀ {us : List Value}, Vals [] us → us = []
  | _, .nil => rfl
theorem Vals.rep {xs : List V} {us : List Value} (h : Vals xs us) : ∀ k : Nat, Vals (List.replicate k xs).flatten (List.replicate k us).flatten
  | 0 => .nil
  | k + 1 => by
    rw [List.replicate_succ, List.replicate_succ, List.flatten_cons, List.flatten_cons]
    exact Vals.append h (Vals.rep h k)
theorem foldl_rep (its : List Value) : ∀ (k : Nat) (acc : List Value),
    List.foldl (fun x1 x2 => x1 ++ x2) acc.toArray (List.replicate k its.toArray) = (acc ++ (List.replicate k its).flatten).toArray
  | 0, acc => by simp
  | k + 1, acc => by
    have e : acc.toArray ++ its.toArray = (acc ++ its).toArray := by simp
    have e2 : (acc ++ its) ++ (List.replicate k its).flatten = acc ++ (List.replicate (k + 1) its).flatten := by
      rw [List.replicate_succ, List.flatten_cons, List.append_assoc]
    rw [← e2, ← foldl_rep its k (acc ++ its), ← e, List.replicate_succ, List.foldl_cons]
section
variable {X : Cx} {pins : List (Addr × Obj)} {σ : St} {H : Hp} {s : Shared} {l b : Addr} {xs ys zs : List V}
theorem Inv.lset {its its' : List Value} {n : Nat} {f : Array Value → Array Value} {t' : Nat} (I : Inv X pins σ H s) (hH : H l = some (.lst xs))
    (e : s.heap.get? l = some { cls := .type "list", data := .seq its.toArray n }) (hf : f its.toArray = its'.toArray) (hv : Vals ys its') (hz : ys.length ≤ sizeLine) :
    Inv X pins σ (upd H l (.lst ys)) { s with heap := s.heap.update l (Obj.mapSeq f), toks := t' } := by
  have q := PySem.IsL.update e f
  rw [hf] at q
  refine I.write (x := l) (e := l) (by rw [hH]; exact trivial) (.inl rfl) (fun b' u hb hu => (Heap.get?_update_other s.heap (Obj.mapSeq f) (Ne.symm hb)).trans hu) ⟨_, q⟩ ?_
  exact ⟨hz, its', _, hv, q⟩
theorem Inv.lnew {its : List Value} {t' : Nat} (I : Inv X pins σ H s) (hv : Vals ys its) (hz : ys.length ≤ sizeLine) :
    Inv X pins σ (upd H s.heap.objs.size (.lst ys)) { s with heap := s.heap.push { cls := .type "list", data := .seq its.toArray }, toks := t' } :=
  I.laid (fun _ _ q => Heap.get?_push_of_some _ q) (Nat.le_refl _) ⟨hz, its, 0, hv, Heap.get?_push_size _ rfl⟩
theorem Inv.fresh (I : Inv X pins σ H s) : H s.heap.objs.size = none := I.hok.fresh (Nat.le_refl _)
theorem Inv.lstM (I : Inv X pins σ H s) (hH : H l = some (.lst xs)) : xs.length ≤ sizeLine ∧ ∃ (its : List Value) (n : Nat), Vals xs its ∧ xs.length = its.length ∧ s.heap.get? l = some { cls := .type "list", data := .seq its.toArray n } := by
  obtain ⟨z, its, n, r, e⟩ := I.hok l _ hH
  exact ⟨z, its, n, r, r.length, e⟩
theorem notLongL {n : Nat} (h : n ≤ sizeLine) : Builtin.List.listTooLong n = false := by
  unfold Builtin.List.listTooLong
  exact decide_eq_false (by omega)
end
section
variable {X : Cx}
def rAppend : V → List V → Hp → VK → Prop := fun x vs H Q => ∃ l xs y, x = .ref l ∧ vs = [y] ∧ H l = some (.lst xs) ∧ xs.length < sizeLine ∧ Q .non (upd H l (.lst (xs ++ [y])))
theorem mt_append : MtM X "list.append" rAppend := by
  intro pins s σ H x vs v us Q I rx rv h
  obtain ⟨l, xs, y, rfl, rfl, hH, hz, q⟩ := h
  cases rx
  obtain ⟨u, rfl, ru⟩ := rv.one
  obtain ⟨z, its, n, r, hl, e⟩ := I.lstM hH
  refine call_meets F.slot_list_append ⟨_, e, rfl⟩ F.entry_list_append (F.args_list_append_2 _ _) (PySem.list_append l its.toArray n u (by rw [List.size_toArray]; omega)) ⟨e, ?_⟩
  refine ⟨.non, _, I.lset (its' := its ++ [u]) hH e (by simp) (r.append (.cons ru .nil)) ?_, rfl, q⟩
  rw [List.length_append, List.length_singleton]
  omega
def rClear : V → List V → Hp → VK → Prop := fun x vs H Q => ∃ l xs, x = .ref l ∧ vs = [] ∧ H l = some (.lst xs) ∧ Q .non (upd H l (.lst []))
theorem mt_clear : MtM X "list.clear" rClear := by
  intro pins s σ H x vs v us Q I rx rv h
  obtain ⟨l, xs, rfl, rfl, hH, q⟩ := h
  cases rx
  have hus := rv.zero
  subst hus
  obtain ⟨z, its, n, r, hl, e⟩ := I.lstM hH
  refine call_meets F.slot_list_clear ⟨_, e, rfl⟩ F.entry_list_clear (F.args_list_clear_1 _) (AutoSeq1.list_clear_list_0 l its.toArray n (by rw [List.size_toArray]; omega)) ⟨e, ?_⟩
  exact ⟨.non, _, I.lset (its' := []) (ys := []) hH e rfl .nil (Nat.zero_le _), rfl, q⟩
theorem len_rep {α : Type} (xs : List α) (k : Nat) : (List.replicate k xs).flatten.length = k * xs.length := by
  induction k with
  | zero => simp
  | succ k ih => rw [List.replicate_succ, List.flatten_cons, List.length_append, ih, Nat.succ_mul, Nat.add_comm]
end
section
variable {prog : Program} {w : World} {A : Around} {E : Value → Shared → Prop} {s : Shared}
end
section
variable {X : Cx}
end
end L2
namespace Att
open PySem PySem.W PySem.Calls PyProof.Rows
theorem ints_of_wellAll {P : Params} {h : Heap} : ∀ (ns : List Int) (vs : List Value), WellAll P h vs (ns.map WData.int) → IntsAre vs ns := by
  intro ns
  induction ns with
  | nil =>
    intro vs w
    rw [List.map_nil] at w
    cases w
    exact .nil
  | cons n ns ih =>
    intro vs w
    rw [List.map_cons] at w
    cases w with
    | cons a b =>
      cases a
      exact .cons _ _ (ih _ b)
theorem script_of {l : OpenLaw} {n : Nat} (hn : l.most = some n) {P : Params} {h : Heap} {args : List WData} {vals : List Value}
    (hpre : l.row.toRowW.claim.pre args = true) (hwl : WellAll P h vals args) :
    ∃ a vs ns, vals = [Value.ref a] ∧ args = [WData.list (ns.map WData.int)] ∧ h.get? a = some { cls := .type "list", data := .seq vs.toArray } ∧ IntsAre vs ns ∧ ns.length ≤ n := by
  have hsh : WShape.hasAll [] args [.list .int] = true := (pre_splitW hpre).1
  have hc : l.pre.holds [] { args := args } = true := (pre_splitW hpre).2
  obtain ⟨d, r, rfl, h1, h2⟩ := hasAllW_cons hsh
  obtain rfl := hasAllW_nil h2
  obtain ⟨xs, rfl, h3⟩ := hasW_list h1
  obtain ⟨ns, rfl⟩ := items_int h3
  have hlen : ns.length ≤ n := by
    unfold OpenLaw.pre at hc
    have h4 : (WTm.not (.lt (.lit (.int (n : Int))) (.len (.arg 0)))).holds [] { args := [.list (ns.map .int)] } = true := by
      have h4 := (holds_andW hc).1
      rw [hn] at h4
      exact h4
    have h5 := condW_of h4 (w_not (w_lt w_lit (w_len_list (w_arg rfl))))
    rw [List.length_map] at h5
    refine Nat.le_of_not_lt fun q => ?_
    have q' : (n : Int) < ((ns.length : Nat) : Int) := by omega
    first
      | (rw [decide_eq_true q'] at h5; exact absurd h5 (by decide))
      | (simp at h5; omega)
  cases hwl with
  | cons w1 w2 =>
    cases w2
    cases w1 with
    | list ho hall => exact ⟨_, _, ns, rfl, rfl, ho, ints_of_wellAll ns _ hall, hlen⟩
theorem post_true (l : OpenLaw) (args : List WData) : l.row.toRowW.claim.post args (.bool true) args = true :=
  postW_of (r := l.row.toRowW) (X := (true == true))
    (show WShape.has [] (.bool true) .bool = true by first | rfl | decide | simp [WShape.has, WShape.arms, WShape.armsAll])
    (show (WTm.eq .res (.lit (.bool true))).value [] { args := args, res := some (.bool true), after := args } = some (.bool (true == true)) from w_eq_bool (w_res rfl) w_lit) rfl
theorem attach_call {l : OpenLaw} {n : Nat} {q : Program} {loose : List Str} {XP : (Str → Option Value) → Heap → Prop} {YP : World → Heap → Prop} {d : DefRec}
    (hn : l.most = some n) (hdf : d.params.defaults = [])
    (call : ∀ (w : World) (s₀ s₁ : Shared) (mg mb : Str → Option Value) (fa : Addr) (o : Obj) (pm cd doc : Value) (a : Addr) (vs : List Value) (ns : List Int),
      Ground q loose [] XP w s₀ mg mb s₁.heap → YP w s₁.heap →
      s₁.heap.get? fa = some o → o.data = .func (docDef d.name d.params d.body d.scope pm cd doc) → s₁.heap.CodeRec cd d.name → mg d.name = some (.ref fa) →
      s₁.heap.get? a = some { cls := .type "list", data := .seq vs.toArray } → IntsAre vs ns → ns.length ≤ n → s₁.gens = #[] →
      codeAny (model l.prog w) callerA (.call (.ref fa) ⟨[.ref a], []⟩) (fun r s' => r = .ok (.ret (.bool true)) ∧ OldK s₁.heap s'.heap ∧ s'.os = s₁.os ∧ AllBare s'.gens) s₁) :
    WalkO q loose XP YP l.row.toRowW d [] (fun f vs => PySem.call f vs) := by
  intro w s₀ s₁ mg mb G Y fa o pm cd doc dV kV ho hd hcd hD hmg hg args vals as hpre hlay hrd hwl hlo
  obtain rfl : dV = .none := Dflts.none hD hdf
  obtain rfl : kV = .none := Dflts.noKw hD
  obtain ⟨a, vs, ns, rfl, rfl, hobj, hints, hlen⟩ := script_of hn hpre hwl
  refine enter_call (codeAny_mono (call w s₀ s₁ mg mb fa o pm cd doc a vs ns G Y ho (fd_plain hd) hcd hmg hobj hints hlen hg) fun r s' hq => ?_)
  obtain ⟨rfl, h2, h3, h4⟩ := hq
  exact ⟨.inl ⟨.bool true, .bool true, [], rfl, fun _ => rfl, .bool true, post_true l _, fun _ => ⟨List.Pairwise.nil, fun _ hm => (nomatch hm)⟩⟩, h2, h3, h4⟩
section
variable {prog : Program} {w : World} {A : Around} {E : Value → Shared → Prop} {s : Shared} {K : Frag}
end
end Att
namespace L2
open PySem PySem.Spec PyProof.Rows
theorem vals_ints : ∀ {vs : List Value} {ns : List Int}, IntsAre vs ns → Vals (ns.map V.int) vs
  | _, _, .nil => .nil
  | _, _, .cons n t h => .cons ⟨t, rfl⟩ (vals_ints h)
def Only (H : Hp) : Prop := ∀ b, H b = none ∨ ∃ o xs, H b = some (.frz o (.lst xs))
theorem law_call {P : Program} {w : World} {K : PySem.W.Frag} {mg mb : Str → Option Value} {CX : CXT} {k : Nat} {fa a : Addr} {fd : FuncData} {x : Str} {sp : Sp} {s₁ : Shared} {vs : List Value} {ns : List Int}
    (KX : K.In s₁.heap) (hns : s₁.heap.Ns mainGlobals mg) (hb : s₁.heap.Ns builtinsNs mb) (hbb : ∀ x : Str, x ≠ "__name__" → mb x = bootBuiltins x) (hlim : s₁.heap.NoLimit) (hg : s₁.gens = #[])
    (ha : s₁.heap.get? a = some { cls := .type "list", data := .seq vs.toArray }) (hi : IntsAre vs ns) (hl : ns.length ≤ sizeLine) (hr : Room k callerA)
    (F : ∀ base : Heap, K.In base → base.Ns mainGlobals mg → FnOk P w K mg base CX k fa fd [x] sp) (hbind : ∀ (s : Shared) (u : Value), BindsTo s fd ⟨[u], []⟩ [(x, u)])
    (hsp : ∀ H : Hp, Only H → SqL K H a (ns.map V.int) → sp [.ref a] H (fun v _ => v = .bl true) fun _ _ _ => False)
    (hCX : ∀ H e s', CX [] H s₁ (fun _ _ _ => False) e s' → False) :
    codeAny (model P w) callerA (.call (.ref fa) ⟨[.ref a], []⟩) (fun r s' => r = .ok (.ret (.bool true)) ∧ OldK s₁.heap s'.heap ∧ s'.os = s₁.os ∧ AllBare s'.gens) s₁ := by
  have rv := vals_ints hi
  have lenV := hi.length
  have core : ∀ H : Hp, Only H → SqL K H a (ns.map V.int) → HOk P w H s₁.heap → (∀ b, H b ≠ none → b = a) → (H a ≠ none → K.lookup a = none) →
      codeAny (model P w) callerA (.call (.ref fa) ⟨[.ref a], []⟩) (fun r s' => r = .ok (.ret (.bool true)) ∧ OldK s₁.heap s'.heap ∧ s'.os = s₁.os ∧ AllBare s'.gens) s₁ := by
    intro H hO hS hok hA hK
    have base_of : ∀ {b : Addr} {o : Obj}, s₁.heap.get? b = some o → H b = none → (hidT s₁.heap H).get? b = some o := fun e n => hidT_get e n
    have noA : ∀ {b : Addr} {o : Obj} {es : Array DictEntry} {ep : Nat}, s₁.heap.get? b = some o → o.data = .dict es ep → H b = none := fun {b o es ep} e d => by
      cases q : H b with
      | none => rfl
      | some u =>
        have e' : b = a := hA b (by rw [q]; simp)
        subst e'
        rw [ha] at e; cases e
        have d' : Data.seq vs.toArray _ = Data.dict es ep := d
        cases d'
    have nsK : ∀ {b : Addr} {m : Str → Option Value}, s₁.heap.Ns b m → (hidT s₁.heap H).Ns b m := fun {b m} ⟨o, es, ep, e, d, r⟩ => ⟨o, es, ep, base_of e (noA e d), d, r⟩
    have hKb : K.In (hidT s₁.heap H) := fun b o e => base_of (KX b o e) (by
      cases q : H b with
      | none => rfl
      | some u =>
        have e' : b = a := hA b (by rw [q]; simp)
        subst e'
        rw [hK (by rw [q]; simp)] at e; cases e)
    have hM : Mod K mg (hidT s₁.heap H) := ⟨hKb, nsK hns, ⟨mb, nsK hb, hbb⟩, let ⟨mc, h1, h2⟩ := hlim; ⟨mc, nsK h1, h2⟩⟩
    have e0 : Env0 P w K mg (hidT s₁.heap H) callerA [] s₁ H := ⟨rfl, hM, fun b o e => of_hidT e, Nat.le_of_eq (hidT_size _ _), trivial, fun b hb => absurd (show b ∈ ([] : List Addr) from hb) (by simp), hok, .of_eq hg⟩
    refine codeAny_mono ((F _ hKb (nsK hns)).run callerA [] s₁ H ⟨[.ref a], []⟩ [.ref a] [.ref a] _ _ hr e0 (hbind s₁ (.ref a)) (.cons rfl .nil) (hsp H hO hS)) fun r s' h => ?_
    cases r with
    | error e => exact (hCX H e s' h).elim
    | ok fl =>
      cases fl with
      | next => exact False.elim h
      | brk => exact False.elim h
      | cont => exact False.elim h
      | ret u =>
        obtain ⟨v, H', os, bare, un, hok', r', q⟩ := h
        have q' : v = .bl true := q
        subst q'
        obtain rfl : u = Value.bool true := r'
        refine ⟨rfl, OldK.of_keep fun b o e => ?_, os, bare⟩
        cases q : H b with
        | none => exact un.keep b o e q (by intro z; exact absurd (show b ∈ ([] : List Addr) from z) (by simp)) (by simp)
        | some u =>
          rcases hO b with z | ⟨ob, xs, z⟩
          · rw [q] at z; cases z
          · have z2 := un.frzs b ob _ z
            obtain ⟨e1, _⟩ := hok b _ z
            obtain ⟨e2, _⟩ := hok' b _ z2
            rw [e] at e1; cases e1
            exact e2
  cases hk : K.lookup a with
  | some o =>
    have e := KX a o hk
    rw [ha] at e
    cases e
    refine core (fun _ => none) (fun _ => .inl rfl) (.inr ⟨_, vs.toArray, _, hk, rfl, rfl, rfl, by rw [List.size_toArray, lenV]; exact hl, by simpa using rv⟩) (fun b u z => by have z' : (none : Option HO) = some u := z; cases z') (fun b z => absurd rfl z) fun z => absurd rfl z
  | none =>
    refine core (fun b => if b = a then some (.frz { cls := .type "list", data := .seq vs.toArray } (.lst (ns.map V.int))) else none) (fun b => ?_) (.inl (.inr ⟨{ cls := .type "list", data := .seq vs.toArray }, if_pos rfl⟩)) (fun b u z => ?_) (fun b z => ?_) fun _ => hk
    · by_cases hb : b = a
      · exact .inr ⟨_, _, if_pos hb⟩
      · exact .inl (if_neg hb)
    · by_cases hb : b = a
      · have z' := (if_pos hb).symm.trans z
        cases z'
        subst hb
        exact ⟨ha, by rw [List.length_map]; exact hl, vs, _, rv, ha⟩
      · have z' := (if_neg hb).symm.trans z
        cases z'
    · by_cases hb : b = a
      · exact hb
      · exact absurd (if_neg hb) z
end L2
namespace L2
open PySem PySem.Spec PyProof.Rows
abbrev KOf {K : PySem.W.Frag} {h : Heap} (_ : K.In h) : PySem.W.Frag := K
theorem walk_of {l : PySem.W.OpenLaw} {n k : Nat} {q : Program} {loose : List Str} {XP : (Str → Option Value) → Heap → Prop} {YP : World → Heap → Prop} {d : DefRec} {K : Params → PySem.W.Frag} {CX : World → CXT} {sp : World → Sp} {x : Str}
    (hn : l.most = some n) (hn2 : n ≤ sizeLine) (hdf : d.params.defaults = []) (hr : Room k callerA)
    (hY : ∀ (w : World) (h : Heap), YP w h → (K w.params).In h)
    (F : ∀ (w : World) (mg : Str → Option Value) (fa : Addr) (h : Heap), (K w.params).In h → h.Ns mainGlobals mg → mg d.name = some (.ref fa) →
      ∃ fd : FuncData, (∀ (s : Shared) (u : Value), BindsTo s fd ⟨[u], []⟩ [(x, u)]) ∧
        ∀ base : Heap, (K w.params).In base → base.Ns mainGlobals mg → FnOk l.prog w (K w.params) mg base (CX w) k fa fd [x] (sp w))
    (hsp : ∀ (w : World) (H : Hp) (a : Addr) (ns : List Int), ns.length ≤ n → Only H → SqL (K w.params) H a (ns.map V.int) → sp w [.ref a] H (fun v _ => v = .bl true) fun _ _ _ => False)
    (hCX : ∀ (w : World) (H : Hp) (s : Shared) (e : Value) (s' : Shared), CX w [] H s (fun _ _ _ => False) e s' → False) :
    PySem.W.WalkO q loose XP YP l.row.toRowW d [] (fun f vs => PySem.call f vs) := by
  refine Att.attach_call hn hdf fun w s₀ s₁ mg mb fa o pm cd doc a vs ns G Y ho hd hcd hmg hobj hints hlen hg => ?_
  have KX := hY w _ Y
  obtain ⟨fd, hb, hF⟩ := F w mg fa _ KX G.T.g hmg
  exact law_call KX G.T.g G.T.b G.T.builtins G.T.nolimit hg hobj hints (Nat.le_trans hlen hn2) hr hF hb (fun H hO hS => hsp w H a ns hlen hO hS) fun H e s' => hCX w H s₁ e s'
end L2
/- THE LAST THEOREM (shape; LID, My.* are yours):
   My.Adr: a structure of the addresses that your layer names (classes, functions); My.Txt K t: a structure (Prop) of the equations over K;
   My.txt_mk : {K} {implicit addresses ..} (e1 : nsIn K mainGlobals "law" = some (some (.ref f))) (e2 : K.lookup f = some ⟨oc, od, .func (fnOf "law" "law" params body scope dV kV doc pm an cdv ct), sl⟩) (e3 : codeIn K cdv "law" = true) .. : ∃ t, My.Txt K t
set_option maxRecDepth 100000 in
set_option maxHeartbeats 0 in
theorem PySem.Challenge.cw_LID_holds : PySem.Challenge.rw_LID.Holds := by
  w_on; o_law; k_head; (case hw => w_witness2)
  k_fill
  refine L2.walk_of (l := PySem.Challenge.rw_LID) (n := 63) (k := 40) (x := "script") (CX := fun w => ..) (sp := fun _ => My.sp_law) rfl (by decide) rfl ⟨rfl, by decide, by decide⟩ (fun w h Y => PySem.W.kIn_of Y) ?F ?S ?C
  case F =>
    intro w mg fa h KX G hmg
    have T : ∃ t, My.Txt (L2.KOf KX) t := by
      dsimp only [L2.KOf]                          -- K must stand as «<heap const> w.params» for k_is
      refine' My.txt_mk ?e1 ?e2 ?e3 ..
      (case e1 => PySem.W.k_is)                    -- in the order: a name -> its address -> its object -> its parts
      (case e2 => PySem.W.k_is)
      ..
    obtain ⟨t, T⟩ := T
    have e0 := hmg.symm.trans (PySem.W.mg_of KX G T.law)
    cases e0                                       -- fa is the law's own address
    exact ⟨_, fun s u => .of_eq rfl, fun base kb nb => My.law_fn T kb nb⟩     -- if «.of_eq rfl» comes too early: refine' ⟨_, ?b, fun base kb nb => My.law_fn T kb nb⟩; exact fun s u => .of_eq rfl
  case S => exact fun w H a ns hl hO hS => ..
  case C => exact ..
(the tactic k_is has no namespace: write k_is) -/
namespace L2
open PySem PySem.Spec PyProof.Rows
def inClass (s : Stmt) (j : Nat) : Stmt := match s with
  | .ClassDef _ _ _ body _ _ _ _ _ _ _ => body.getD j (.Pass ⟨0, 0, 0, 0⟩)
  | _ => .Pass ⟨0, 0, 0, 0⟩
def defArgs (s : Stmt) : Arguments := match s with
  | .FunctionDef _ a _ _ _ _ _ _ _ _ => a
  | _ => { posonlyargs := [], args := [], vararg := none, kwonlyargs := [], kw_defaults := [], kwarg := none, defaults := [] }
def defBody (s : Stmt) : List Stmt := match s with
  | .FunctionDef _ _ b _ _ _ _ _ _ _ => b
  | _ => []
def defScope (s : Stmt) : Scope := match s with
  | .FunctionDef _ _ _ _ _ _ sc _ _ _ => sc
  | _ => { kind := .function, names := [], isGenerator := false, isCoroutine := false }
abbrev CX0 : CXT := fun _ _ _ _ _ _ => False
abbrev E0 : XK := fun _ _ _ => False
theorem pass0 {X : Cx} : Passes CX0 X E0 := fun _ _ _ _ _ _ _ h => h.elim
structure Fun (K : PySem.W.Frag) (x qual : Str) (st : Stmt) (f : Addr) (fd : FuncData) : Prop where
  ex : ∃ (oc : Value) (od : Option Addr) (kV doc pm : Value) (an : Option Addr) (cdv ct : Value) (osl : Array (Option Value)),
    fd = PySem.W.fnOf x qual (defArgs st) (defBody st) (defScope st) .none kV doc pm an cdv ct ∧ K.lookup f = some ⟨oc, od, .func fd, osl⟩ ∧ PySem.W.codeIn K cdv qual = true
  kp : PySem.W.keepIn K (.ref f) = true
section
variable {P : Program} {w : World} {K : PySem.W.Frag} {mg : Str → Option Value} {base : Heap}
theorem Fun.ok {x qual : Str} {st : Stmt} {f : Addr} {fd : FuncData} {N ps : List Str} {k : Nat} {sp : Sp} (F : Fun K x qual st f fd) (S : FnScope N ps (defScope st)) (len : ∀ vs H Q E, sp vs H Q E → vs.length = ps.length)
    (hbody : ∀ (cdv : Value) (A : Around) (outer : List Env) (s : Shared) (H : Hp) (vs : List V) (Q : VK) (E : XK), Room k (A.deeper (envOfC qual (defScope st) s.heap.objs.size f cdv)) → sp vs H Q E →
      ∃ t, PSs (cxOf CX0 P w K mg base N qual (defScope st) f cdv A outer s H E).nox (defBody st) t ∧ t { nx := fun _ H' => Q .non H', rt := Q } (start N vs) H) : FnOk P w K mg base CX0 (k + 1) f fd ps sp := by
  obtain ⟨oc, od, kV, doc, pm, an, cdv, ct, osl, rfl, lk, hcd⟩ := F.ex
  refine fn_of lk hcd S len fun A outer s H vs Q E hr hsp => ?_
  obtain ⟨t, h, q⟩ := hbody cdv A outer s H vs Q E hr hsp
  exact ⟨t, h.nox, q⟩
theorem Fun.binds {x qual : Str} {st : Stmt} {f : Addr} {fd : FuncData} {ps : List Str} (F : Fun K x qual st f fd)
    (h : ∀ (kV doc pm : Value) (an : Option Addr) (cdv ct : Value) (us : List Value), us.length = ps.length → bindArgs (PySem.W.fnOf x qual (defArgs st) (defBody st) (defScope st) .none kV doc pm an cdv ct) ⟨us, []⟩ = pure (ps.zip us)) : Binds K fd ps [] := by
  obtain ⟨oc, od, kV, doc, pm, an, cdv, ct, osl, rfl, lk, hcd⟩ := F.ex
  exact .all (h kV doc pm an cdv ct)
theorem fun_mk {x qual : Str} {st : Stmt} {f : Addr} {oc : Value} {od an : Option Addr} {osl : Array (Option Value)} {kV doc pm cdv ct : Value} (l : K.lookup f = some ⟨oc, od, .func (PySem.W.fnOf x qual (defArgs st) (defBody st) (defScope st) .none kV doc pm an cdv ct), osl⟩)
    (c : PySem.W.codeIn K cdv qual = true) (k : PySem.W.keepIn K (.ref f) = true) : Fun K x qual st f (PySem.W.fnOf x qual (defArgs st) (defBody st) (defScope st) .none kV doc pm an cdv ct) := ⟨⟨oc, od, kV, doc, pm, an, cdv, ct, osl, rfl, l, c⟩, k⟩
end
section
variable {X : Cx}
end
def Same (H H' : Hp) : Prop := ∀ b o, H b = some o → H' b = some o
theorem Same.refl (H : Hp) : Same H H := fun _ _ h => h
theorem Same.trans {H H1 H2 : Hp} (a : Same H H1) (b : Same H1 H2) : Same H H2 := fun c o h => b c o (a c o h)
theorem Same.seq {K : PySem.W.Frag} {H H' : Hp} {a : Addr} {xs : List V} (e : Same H H') (h : SqL K H a xs) : SqL K H' a xs := by
  rcases h with (h | ⟨o, h⟩) | h
  · exact .inl (.inl (e _ _ h))
  · exact .inl (.inr ⟨o, e _ _ h⟩)
  · exact .inr h
end L2
namespace L2
open PySem PySem.Spec PyProof.Rows
section
variable {κ : Type} [DecidableEq κ]
end
section
variable {P : Program} {w : World} {H : Hp} {h : Heap} {a : Addr}
end
section
variable {X : Cx} {pins : List (Addr × Obj)} {σ : St} {H : Hp} {s : Shared} {a : Addr} {y v : V} {u r : Value} {o : Option V} {A : Around} {E : Value → Shared → Prop}
end
section
variable {X : Cx} {pins : List (Addr × Obj)} {σ : St} {H : Hp} {s : Shared} {a : Addr} {kvs : List (Key × V)} {k : Key} {u : Value} {A : Around} {E : Value → Shared → Prop}
end
section
variable {X : Cx} {o i e value : Expr} {pos pos' tpos : Pos} {td ty tv : TE}
end
section
variable {X : Cx} {pos : Pos}
end
def tPairs : List (TE × TE) → St → Hp → (List (V × V) → Hp → Prop) → Prop
  | [], _, H, Q => Q [] H
  | (tk, tv) :: r, σ, H, Q => tk σ H fun x H1 => tv σ H1 fun y H2 => tPairs r σ H2 fun ps H3 => Q ((x, y) :: ps) H3
abbrev VV : List (V × V) → List (Value × Value) → Prop := Paired fun p q => RelV p.1 q.1 ∧ RelV p.2 q.2
def PPs (X : Cx) (pos : Pos) (keys : List (Option Expr)) (values : List Expr) (trs : List (TE × TE)) : Prop :=
  ∀ (pins : List (Addr × Obj)) (s : Shared) (σ : St) (H : Hp) (Q : List (V × V) → Hp → Prop), Inv X pins σ H s → tPairs trs σ H Q →
    wpAny (model X.prog X.w) X.A (evalPairs (pairTrees keys values X.env pos)) (fun vs s' => ∃ ps H', Inv X pins σ H' s' ∧ VV ps vs ∧ Q ps H') X.xe s
structure M1 (X : Cx) (o : Expr) (m : Str) (apos : Pos) (e : Expr) (cpos : Pos) : Prop where
  base : attributeBase o m X.env (eval o X.env) = eval o X.env
  few : ((backTo cpos (starEach [e] X.env)).all (fun x => !x.1) && (backToKw cpos (keywordEach [] X.env)).all (fun x => x.1.isSome)
    && decide (([e] : List Expr).length + ([] : List Keyword).length + (if ([] : List Keyword).isEmpty then 0 else 1) < 30)) = true
  line : (apos.endLine == cpos.line) = true
  trees : backTo cpos (starEach [e] X.env) = [(false, eval e X.env)]
structure M2 (X : Cx) (o : Expr) (m : Str) (apos : Pos) (e f : Expr) (cpos : Pos) : Prop where
  base : attributeBase o m X.env (eval o X.env) = eval o X.env
  few : ((backTo cpos (starEach [e, f] X.env)).all (fun x => !x.1) && (backToKw cpos (keywordEach [] X.env)).all (fun x => x.1.isSome)
    && decide (([e, f] : List Expr).length + ([] : List Keyword).length + (if ([] : List Keyword).isEmpty then 0 else 1) < 30)) = true
  line : (apos.endLine == cpos.line) = true
  trees : backTo cpos (starEach [e, f] X.env) = [(false, eval e X.env), (false, eval f X.env)]
section
variable {X : Cx} {pins : List (Addr × Obj)} {σ : St} {H : Hp} {s : Shared} {a : Addr} {y d : V} {u r : Value} {o : Option V} {A : Around} {E : Value → Shared → Prop}
end
section
variable {X : Cx} {o e f : Expr} {apos cpos : Pos} {td ty tx : TE}
end
section
variable {X : Cx} {pins : List (Addr × Obj)} {σ : St} {H : Hp} {s : Shared} {a : Addr} {kvs : List (Key × V)} {A : Around} {E : Value → Shared → Prop}
end
section
variable {X : Cx} {pins : List (Addr × Obj)} {σ : St} {H : Hp} {s : Shared} {a : Addr} {y : V} {u : Value} {A : Around} {E : Value → Shared → Prop}
end
end L2
namespace L2
open PySem PySem.Spec PyProof.Rows
section
variable {X : Cx}
end
section
variable {κ : Type} [DecidableEq κ]
end
end L2
namespace L2
open PySem PySem.Spec PyProof.Rows
def closGo (cells : List (Str × Addr)) : List (Str × NameKind) → List (Str × Addr) → List (Str × Addr)
  | [], acc => acc
  | (n, k) :: r, acc => if k == .free then closGo cells r ((n, (cells.lookup n).getD 0) :: acc) else closGo cells r acc
def closOf (scope : Scope) (env : Env) : List (Str × Addr) := closGo env.cells scope.names []
theorem closureFor_eq {scope : Scope} {env : Env} (hf : ∀ y ∈ scope.names, y.2 = .free → ∃ c, env.cells.lookup y.1 = some c) : closureFor scope env = pure (closOf scope env) := by
  simp only [closureFor, closOf]
  generalize ([] : List (Str × Addr)) = acc
  generalize scope.names = names at hf
  induction names generalizing acc with
  | nil => rfl
  | cons y r ih =>
    obtain ⟨n, k⟩ := y
    have hr := fun a => ih a fun z hz => hf z (List.mem_cons_of_mem _ hz)
    by_cases hk : k = .free
    · obtain ⟨c, hc⟩ := hf (n, k) List.mem_cons_self hk
      have hc' : env.cells.lookup n = some c := hc
      subst hk
      simp only [List.forIn_cons, beq_self_eq_true, if_true, cellOf, hc', pure_bind, bind_assoc, closGo, Option.getD_some]
      exact hr _
    · have hb : (k == NameKind.free) = false := by simpa using hk
      simp only [List.forIn_cons, hb, Bool.false_eq_true, if_false, pure_bind, bind_assoc, closGo]
      exact hr _
theorem closGo_some {cells : List (Str × Addr)} {x : Str} {c : Addr} : ∀ {names : List (Str × NameKind)} {acc : List (Str × Addr)}, (closGo cells names acc).lookup x = some c → acc.lookup x = some c ∨ (∃ k, (x, k) ∈ names ∧ k = .free ∧ (cells.lookup x).getD 0 = c)
  | [], acc, h => .inl h
  | (n, k) :: r, acc, h => by
    unfold closGo at h
    by_cases hk : k = .free
    · subst hk
      simp only [beq_self_eq_true, if_true] at h
      rcases closGo_some h with z | ⟨k, hm, q⟩
      · rw [List.lookup_cons] at z
        by_cases hx : x = n
        · subst hx
          simp at z
          exact .inr ⟨.free, List.mem_cons_self, rfl, z⟩
        · have hb : (x == n) = false := by simpa using hx
          rw [hb] at z
          exact .inl z
      · exact .inr ⟨k, List.mem_cons_of_mem _ hm, q⟩
    · have hb : (k == NameKind.free) = false := by simpa using hk
      simp only [hb, Bool.false_eq_true, if_false] at h
      rcases closGo_some h with z | ⟨k, hm, q⟩
      · exact .inl z
      · exact .inr ⟨k, List.mem_cons_of_mem _ hm, q⟩
theorem closGo_has {cells : List (Str × Addr)} {x : Str} : ∀ {names : List (Str × NameKind)} {acc : List (Str × Addr)}, ((∃ c, acc.lookup x = some c) ∨ (x, NameKind.free) ∈ names) → ∃ c, (closGo cells names acc).lookup x = some c
  | [], acc, h => by
    rcases h with h | h
    · exact h
    · cases h
  | (n, k) :: r, acc, h => by
    unfold closGo
    by_cases hk : k = .free
    · subst hk
      simp only [beq_self_eq_true, if_true]
      refine closGo_has ?_
      by_cases hx : x = n
      · subst hx
        exact .inl ⟨(cells.lookup x).getD 0, by simp [List.lookup_cons]⟩
      · have hb : (x == n) = false := by simpa using hx
        rcases h with ⟨c, h⟩ | h
        · exact .inl ⟨c, by rw [List.lookup_cons, hb]; exact h⟩
        · rcases List.mem_cons.mp h with e | h
          · cases e; exact absurd rfl hx
          · exact .inr h
    · have hb : (k == NameKind.free) = false := by simpa using hk
      simp only [hb, Bool.false_eq_true, if_false]
      refine closGo_has ?_
      rcases h with h | h
      · exact .inl h
      · rcases List.mem_cons.mp h with e | h
        · cases e; exact absurd rfl hk
        · exact .inr h
def relabelS (scope sc0 : Scope) : List (Str × NameKind) :=
  scope.names.map fun (n, k) => if (k == .free && sc0.kind == .function && sc0.names.lookup n == some .cell) then (n, .cell) else (n, k)
theorem relabelS_cf {scope sc0 : Scope} (hc : ∀ y ∈ scope.names, y.2 ≠ .cell) {x : Str} {k : NameKind} (h : (relabelS scope sc0).lookup x = some k) (hk : k = .cell ∨ k = .free) : (x, NameKind.free) ∈ scope.names := by
  have hm := PySem.mem_of_lookup h
  unfold relabelS at hm
  obtain ⟨⟨n, k0⟩, h1, h2⟩ := List.mem_map.mp hm
  dsimp only at h2
  by_cases hb : (k0 == NameKind.free && sc0.kind == .function && sc0.names.lookup n == some .cell) = true
  · rw [if_pos hb] at h2
    have e : k0 = .free := by
      simp only [Bool.and_eq_true, beq_iff_eq] at hb
      exact hb.1.1
    cases h2
    rw [← e]; exact h1
  · rw [if_neg hb] at h2
    cases h2
    rcases hk with e | e
    · exact absurd e (hc _ h1)
    · rw [← e]; exact h1
def compN (N0 own : List Str) (cap : List Nat) : List Str := own ++ cap.map fun j => N0.getD j (Str.ofString "")
def compSt (own : List Str) (cap : List Nat) (σ : St) : St := own.map (fun _ => none) ++ cap.map fun j => (σ[j]?).join
def compOk (sc0 : Scope) (N0 : List Str) (scope : Scope) (own : List Str) (cap : List Nat) : Bool :=
  (scope.kind == .function) && scope.names.all (fun y => y.2 != .cell) && scope.names.all (fun y => y.2 != .local || scope.names.lookup y.1 == some .local) &&
  scope.names.all (fun y => y.2 != .free || sc0.names.lookup y.1 == some .cell || sc0.names.lookup y.1 == some .free) &&
  cap.all fun j => decide (j < N0.length) && scope.names.contains (N0.getD j (Str.ofString ""), NameKind.free) && ((relabelS scope sc0).lookup (N0.getD j (Str.ofString "")) == some .cell || (relabelS scope sc0).lookup (N0.getD j (Str.ofString "")) == some .free)
structure CompOk (sc0 : Scope) (N0 : List Str) (scope : Scope) (own : List Str) (cap : List Nat) : Prop where
  kind : scope.kind = .function
  nocell : ∀ y ∈ scope.names, y.2 ≠ .cell
  names : ∀ y ∈ scope.names, y.2 = .local → scope.names.lookup y.1 = some .local
  free : ∀ y ∈ scope.names, y.2 = .free → sc0.names.lookup y.1 = some .cell ∨ sc0.names.lookup y.1 = some .free
  cap : ∀ j ∈ cap, j < N0.length ∧ (N0.getD j (Str.ofString ""), NameKind.free) ∈ scope.names ∧ ((relabelS scope sc0).lookup (N0.getD j (Str.ofString "")) = some .cell ∨ (relabelS scope sc0).lookup (N0.getD j (Str.ofString "")) = some .free)
theorem CompOk.of {sc0 : Scope} {N0 : List Str} {scope : Scope} {own : List Str} {cap : List Nat} (h : compOk sc0 N0 scope own cap = true) : CompOk sc0 N0 scope own cap := by
  unfold compOk at h
  simp only [Bool.and_eq_true, List.all_eq_true, beq_iff_eq, bne_iff_ne, ne_eq, Bool.or_eq_true, decide_eq_true_eq, List.contains_iff_mem] at h
  obtain ⟨⟨⟨⟨h1, h2⟩, h3⟩, h4⟩, h5⟩ := h
  refine ⟨h1, h2, fun y hy e => ?_, fun y hy e => ?_, fun j hj => ?_⟩
  · rcases h3 y hy with z | z
    · exact absurd e z
    · exact z
  · rcases h4 y hy with (z | z) | z
    · exact absurd e z
    · exact .inl z
    · exact .inr z
  · obtain ⟨⟨a, b⟩, c⟩ := h5 j hj
    exact ⟨a, b, c⟩
def cxComp (X : Cx) (scope : Scope) (C : Addr) (N' : List Str) (s : Shared) (H : Hp) (ex : List Addr) : Cx where
  prog := X.prog
  w := X.w
  K := X.K
  mg := X.mg
  base := X.base
  A := X.A
  N := N'
  s₀ := s
  H₀ := H
  env := compEnvC scope (closOf scope X.env) C X.env
  outer := X.stack
  stack := X.stack
  ex := ex
  fn := fun _ => false
  calm := X.calm
  pn := []
  xe := fun _ _ => False
section
variable {X : Cx}
def PIfs (X : Cx) (ifs : List Expr) (t : TT) : Prop :=
  ∀ (pins : List (Addr × Obj)) (s : Shared) (σ : St) (H : Hp) (Q : Bool → Hp → Prop), Inv X pins σ H s → t σ H Q →
    wpAny (model X.prog X.w) X.A (forIn ifs true fun c r => if r = true then do let ok ← isTrue c X.env (eval c X.env); pure (ForInStep.yield ok) else pure (ForInStep.yield r)) (TP X pins σ Q) X.xe s
def tYes : TT := fun _ H Q => Q true H
theorem pifs_nil : PIfs X [] tYes := fun _ _ _ H _ I h => wpAny_tests_nil ⟨H, I, h⟩
end
def CompW (J : It) (g : TG) (tt : TT) (te : TE) (Q : List V → Hp → Prop) (σ0 : St) (H1 : Hp) : Prop :=
  ∃ W : Nat → Nat → List V → St → Hp → Prop, (∃ m, W 0 m [] σ0 H1) ∧ ∀ i m ys σ H, W i m ys σ H →
    (J.stop i H ∧ Q ys H) ∨ (J.go i H ∧ ys.length < sizeLine ∧ ∃ N : List V → St → Hp → Prop, (∀ ys σ' H', N ys σ' H' → ∃ m', m' < m ∧ W (i + 1) m' ys σ' H') ∧ ∀ x H', J.yld i H x H' → g x σ H' fun σ2 H2 => tt σ2 H2 fun b H3 =>
      if b = true then te σ2 H3 fun y H4 => N (ys ++ [y]) σ2 H4 else N ys σ2 H3)
def tComp (wi : TI) (own : List Str) (cap : List Nat) (g : TG) (tt : TT) (te : TE) : TE := fun σ H Q =>
  wi σ H fun J H1 => CompW J g tt te (fun ys H' => ys.length ≤ sizeLine ∧ ∀ p, H' p = none → Q (.ref p) (upd H' p (.lst ys))) (compSt own cap σ) H1
section
variable {prog : Program} {w : World} {A : Around} {R : Result → Shared → Prop} {s : Shared}
theorem codeAny_compLoop_go {elt target iter : Expr} {ifs : List Expr} {scope : Scope} {pos : Pos} {it acc : Value} {env : Env} (I : Nat → Shared → Prop)
    (turn : ∀ n s, I n s → wpAny (model prog w) A (pyNext it) (fun r s₁ => match r with
      | none => R (.ok .next) s₁
      | some v => wpAny (model prog w) A (letOwnedTupleGo target it v) (fun _ s₁' => wpAny (model prog w) A (assign target env v) (fun _ s₂ =>
          wpAny (model prog w) A (forIn ifs true fun c r => if r = true then do let ok ← isTrue c env (eval c env); pure (ForInStep.yield ok) else pure (ForInStep.yield r)) (fun ok s₃ =>
            if ok = true then wpAny (model prog w) A (eval elt env) (fun x s₄ =>
              wpAny (model prog w) A (call (.builtin "list.append") [acc, x]) (fun _ s₅ => ∃ m, m < n ∧ I m s₅) (fun _ _ => False) s₄) (fun _ _ => False) s₃
            else ∃ m, m < n ∧ I m s₃) (fun _ _ => False) s₂) (fun _ _ => False) s₁') (fun _ _ => False) s₁) (fun _ _ => False) s)
    (n : Nat) (h : I n s) :
    codeAny (model prog w) A (.compLoop (.ListComp elt [⟨target, iter, ifs, 0⟩] scope pos) 0 it acc env) R s := by
  refine codeAny_loop rfl I (fun n s hI => ?_) n h
  show wpAny _ A ((compTurn (.ListComp elt [⟨target, iter, ifs, 0⟩] scope pos) 0 it acc env).onRaise (fun x => do noteFrame x env; theTreesLotGoes x)) _ _ s
  refine wpAny_noted ?_
  rw [compTurn_list]
  refine wpAny_bind (wpAny_standAt (wpAny_bind (wpAny_mono (turn n s hI) (fun r s₁ h₁ => ?_) fun _ _ h' => h'.elim)))
  cases r with
  | none => exact wpAny_pure h₁
  | some v =>
    refine wpAny_bind (wpAny_mono h₁ (fun _ s₁' h₁' => ?_) fun _ _ h' => h'.elim)
    refine wpAny_bind (wpAny_mono h₁' (fun _ s₂ h₂ => wpAny_bind (wpAny_mono h₂ (fun ok s₃ h₃ => ?_) fun _ _ h' => h'.elim)) fun _ _ h' => h'.elim)
    cases ok with
    | false => exact wpAny_pure ⟨rfl, h₃⟩
    | true =>
      exact wpAny_bind (wpAny_bind (wpAny_mono h₃ (fun x s₄ h₄ => wpAny_bind (wpAny_mono h₄ (fun _ s₅ h₅ => wpAny_pure (wpAny_pure ⟨rfl, h₅⟩)) fun _ _ h' => h'.elim)) fun _ _ h' => h'.elim))
end
section
variable {X : Cx} {pins : List (Addr × Obj)} {σ : St} {s2 : Shared} {H2 : Hp} {elt tg iter : Expr} {ifs : List Expr} {scope : Scope} {pos : Pos} {g : TG} {tt : TT} {te : TE} {sc0 : Scope} {N0 own : List Str} {cap : List Nat}
  {it : Addr} {fp : List Addr} {tn : Nat → Heap → Prop} {J : It}
theorem clos_has (I2 : Inv X pins σ H2 s2) (hsc : X.env.scope = sc0) (ok : CompOk sc0 N0 scope own cap) : ∀ y ∈ scope.names, y.2 = .free → ∃ c, X.env.cells.lookup y.1 = some c := fun y hy e => by
  refine I2.ok.has y.1 ?_
  have q := ok.free y hy e
  rw [← hsc] at q
  exact q
theorem clos_lookup (I2 : Inv X pins σ H2 s2) (hsc : X.env.scope = sc0) (ok : CompOk sc0 N0 scope own cap) {x : Str} {c : Addr} (h : (closOf scope X.env).lookup x = some c) : X.env.cells.lookup x = some c := by
  rcases closGo_some h with z | ⟨k, hm, hk, q⟩
  · simp at z
  · obtain ⟨c', e⟩ := clos_has I2 hsc ok (x, k) hm hk
    have e' : X.env.cells.lookup x = some c' := e
    rw [e'] at q
    rw [e', ← q]; rfl
theorem comp_cxOk (I2 : Inv X pins σ H2 s2) (hsc : X.env.scope = sc0) (ok : CompOk sc0 N0 scope own cap) (T : Turn X.prog X.w X.K tg J fp it tn) (st2 : tn 0 s2.heap) (f2 : ∀ b ∈ fp, FpOk X pins H2 b)
    (C : Addr) (hC : s2.heap.objs.size ≤ C) : (cxComp X scope C (compN N0 own cap) s2 H2 fp).Ok := by
  have lt : ∀ b ∈ fp, b < s2.heap.objs.size := fun b hb => by
    obtain ⟨o, e, _⟩ := T.obj 0 _ st2 b hb
    exact Heap.lt_size e
  have rel : (relabel scope X.env).names = relabelS scope sc0 := by rw [← hsc]; rfl
  refine ⟨I2.ok.mod, ok.kind, I2.ok.glob, I2.ok.blt, hC, fun x y c h1 h2 => ?_, fun x hx => ?_, fun x c hf _ => absurd hf (by simp [cxComp]), I2.ok.hd, I2.ok.frames, .inl rfl, fun b hb => ⟨?_, fun x c h => ?_⟩, I2.bs, Nat.le_trans I2.ok.bsz I2.sz,
    fun b o e hb => ?_, fun b hb hz => ?_, I2.stack, I2.stkFree⟩
  · exact I2.ok.inj x y c (clos_lookup I2 hsc ok h1) (clos_lookup I2 hsc ok h2)
  · have hx' : (relabelS scope sc0).lookup x = some .cell ∨ (relabelS scope sc0).lookup x = some .free := by rw [← rel]; exact hx
    have hm : (x, NameKind.free) ∈ scope.names := by
      rcases hx' with q | q
      · exact relabelS_cf ok.nocell q (.inl rfl)
      · exact relabelS_cf ok.nocell q (.inr rfl)
    exact closGo_has (.inr hm)
  · exact Nat.ne_of_lt (Nat.lt_of_lt_of_le (lt b hb) hC)
  · exact (f2 b hb).2.2.2.2.1 x c (clos_lookup I2 hsc ok h)
  · rcases (f2 b hb).2.2.2.1 with z | z
    · exact I2.ok.noex b o e z
    · exact absurd (Nat.lt_of_lt_of_le (Heap.lt_size e) (Nat.le_trans I2.ok.bsz z)) (Nat.lt_irrefl _)
  · rcases List.mem_cons.mp (I2.stkSub b hz) with z | z
    · exact (f2 b hb).2.1 z
    · exact (f2 b hb).2.2.1 z
theorem comp_inv (I2 : Inv X pins σ H2 s2) (hsc : X.env.scope = sc0) (hN0 : X.N = N0) (ok : CompOk sc0 N0 scope own cap) (T : Turn X.prog X.w X.K tg J fp it tn) (st2 : tn 0 s2.heap) (f2 : ∀ b ∈ fp, FpOk X pins H2 b)
    (C : Addr) (hC : s2.heap.objs.size ≤ C) {h₁ : Heap} {tk : Nat} {m : Str → Option Value} (old : ∀ b o, s2.heap.get? b = some o → h₁.get? b = some o) (hns : h₁.Ns C m) :
    Inv (cxComp X scope C (compN N0 own cap) s2 H2 fp) [] (compSt own cap σ) H2 { s2 with heap := h₁, toks := tk } := by
  have rel : (relabel scope X.env).names = relabelS scope sc0 := by rw [← hsc]; rfl
  refine ⟨comp_cxOk I2 hsc ok T st2 f2 C hC, rfl, I2.bare, Un.kept old, ⟨m, hns, fun i x v e1 e2 _ => ?_⟩, fun x c h => ?_, I2.hok.fresh hC, fun x c h => ?_, fun p hp => absurd (show p ∈ ([] : List (Addr × Obj)) from hp) (by simp), I2.hok.kept old, ?_⟩
  · have e1' : (compN N0 own cap)[i]? = some x := e1
    unfold compN at e1'
    unfold compSt at e2
    by_cases hi : i < own.length
    · rw [List.getElem?_append_left (by simpa using hi), List.getElem?_map] at e2
      cases q : own[i]? with
      | none => rw [q] at e2; cases e2
      | some z => rw [q] at e2; cases e2
    · rw [List.getElem?_append_right (by simpa using hi), List.getElem?_map] at e2
      rw [List.getElem?_append_right (by simpa using hi), List.getElem?_map] at e1'
      rw [List.length_map] at e2
      cases q : cap[i - own.length]? with
      | none => rw [q] at e2; cases e2
      | some j =>
        rw [q] at e1' e2
        have ex : N0.getD j (Str.ofString "") = x := Option.some.inj e1'
        have ev : (σ[j]?).join = some v := Option.some.inj e2
        obtain ⟨hj, hm, hk⟩ := ok.cap j (List.mem_of_getElem? q)
        rw [ex] at hm hk
        have eN : X.N[j]? = some x := by
          rw [hN0, List.getElem?_eq_getElem hj]
          rw [List.getD_eq_getElem?_getD, List.getElem?_eq_getElem hj] at ex
          exact congrArg some ex
        have eσ : σ[j]? = some (some v) := by
          cases z : σ[j]? with
          | none => rw [z] at ev; cases ev
          | some o => rw [z] at ev; cases o with
            | none => cases ev
            | some y => exact congrArg some ev
        have kf : X.env.kindOf x = some .cell ∨ X.env.kindOf x = some .free := by
          have z := ok.free _ hm rfl
          rw [← hsc] at z
          exact z
        obtain ⟨m0, hn0, hl⟩ := I2.loc
        obtain ⟨u, r, l⟩ := hl j x v eN eσ (kf.elim (fun z => .inr (.inl z)) fun z => .inr (.inr z))
        refine ⟨u, r, .inr ⟨?_, ?_⟩⟩
        · show (relabel scope X.env).names.lookup x = _ ∨ (relabel scope X.env).names.lookup x = _
          rw [rel]; exact hk
        · rcases l with ⟨l, _⟩ | ⟨_, c, hc, ⟨o, ho, hd⟩⟩
          · rcases kf with z | z <;> (rw [z] at l; cases l)
          · obtain ⟨c', hc'⟩ := closGo_has (cells := X.env.cells) (names := scope.names) (acc := []) (.inr hm)
            have z := clos_lookup I2 hsc ok hc'
            rw [hc] at z
            cases z
            exact ⟨c, hc', o, old _ _ ho, hd⟩
  · obtain ⟨v, o, ho, hd⟩ := I2.cell x c (clos_lookup I2 hsc ok h)
    exact ⟨v, o, old _ _ ho, hd⟩
  · exact I2.freeC x c (clos_lookup I2 hsc ok h)
  · show (compSt own cap σ).length = (compN N0 own cap).length
    unfold compSt compN
    simp
theorem comp_block {Q : List V → Hp → Prop} {RR : Value → Addr → Result → Shared → Prop} {E : Value → Shared → Prop} (hc : X.calm = true) (I2 : Inv X pins σ H2 s2) (hsc : X.env.scope = sc0) (hN0 : X.N = N0) (ok : CompOk sc0 N0 scope own cap)
    (hg : ∀ C s H ex, PG (cxComp X scope C (compN N0 own cap) s H ex) tg g) (ht : ∀ C s H ex, PIfs (cxComp X scope C (compN N0 own cap) s H ex) ifs tt) (he : ∀ C s H ex, PE (cxComp X scope C (compN N0 own cap) s H ex) elt te)
    (T : Turn X.prog X.w X.K tg J fp it tn) (st2 : tn 0 s2.heap) (f2 : ∀ b ∈ fp, FpOk X pins H2 b) (hW : CompW J g tt te Q (compSt own cap σ) H2)
    (hRR : ∀ D C oC ys H' s', Inv X (pins ++ [(C, oC)]) σ (upd H' D (.lst ys)) s' → (∀ h : Heap, h.get? C = some oC → ∃ m, h.Ns C m) → FpOk X pins (upd H' D (.lst ys)) C → H' D = none → Q ys H' → RR (.ref D) C (.ok .next) s')
    (hQsz : ∀ ys H', Q ys H' → ys.length ≤ sizeLine) :
    wpAny (model X.prog X.w) X.A (newList []) (fun acc s₃ => wpAny (model X.prog X.w) X.A (newFunctionEnv scope X.env.globals (closOf scope X.env) [] X.env.qual none .none (some X.env)) (fun cenv s₄ =>
      codeAny (model X.prog X.w) X.A (.compStart (.ListComp elt [⟨tg, iter, ifs, 0⟩] scope pos) 0 (.ref it) acc { cenv with scope := relabel scope X.env }) (RR acc cenv.locals) s₄) E s₃) E s2 := by
  refine wpAny_newObj_type (wpAny_newFunctionEnv ok.nocell (by intro y hy; simp at hy) (fun h₁ hns₁ hsb₁ => ?_) ok.kind)
  dsimp only at hns₁ hsb₁ ⊢
  generalize hP2 : s2.heap.push { cls := .type "list", dict := none, data := .seq ([] : List Value).toArray } = P2 at hns₁ hsb₁ ⊢
  have hC : P2.objs.size = s2.heap.objs.size + 1 := by rw [← hP2, Heap.size_push]
  have hDC : s2.heap.objs.size ≠ P2.objs.size := by rw [hC]; exact Nat.ne_of_lt (Nat.lt_succ_self _)
  have hCle : s2.heap.objs.size ≤ P2.objs.size := by rw [hC]; exact Nat.le_succ _
  have below : ∀ b, b < s2.heap.objs.size → b ≠ P2.objs.size ∧ b ≠ s2.heap.objs.size := fun b hb => ⟨by rw [hC]; exact Nat.ne_of_lt (Nat.lt_succ_of_lt hb), Nat.ne_of_lt hb⟩
  have ltf : ∀ b ∈ fp, b < s2.heap.objs.size := fun b hb => by
    obtain ⟨o, e, _⟩ := T.obj 0 _ st2 b hb
    exact Heap.lt_size e
  have old : ∀ b o, s2.heap.get? b = some o → h₁.get? b = some o := fun b o e => hsb₁.extBut b o (below b (Heap.lt_size e)).1 (Heap.get?_push_of_some _ (hP2 ▸ Heap.get?_push_of_some _ e))
  have hacc : h₁.PlainList s2.heap.objs.size #[] := ⟨_, hsb₁.extBut _ _ hDC (Heap.get?_push_of_some _ (hP2 ▸ Heap.get?_push_size _ rfl))⟩
  have st₁ : tn 0 h₁ := T.keep _ _ _ st2 fun b _ o e => old b o e
  have hDno : ∀ b ∈ fp, s2.heap.objs.size ≠ b := fun b hb => (below b (ltf b hb)).2.symm
  generalize hXe : cxComp X scope P2.objs.size (compN N0 own cap) s2 H2 fp = X'
  have loop : ∀ s₃ : Shared, s₃ = { s2 with heap := h₁, toks := s2.toks + ([] : List (Str × Value)).length } →
      codeAny (model X.prog X.w) X.A (.compLoop (.ListComp elt [⟨tg, iter, ifs, 0⟩] scope pos) 0 (.ref it) (.ref s2.heap.objs.size) (compEnvC scope (closOf scope X.env) P2.objs.size X.env))
        (RR (.ref s2.heap.objs.size) P2.objs.size) s₃ := by
    rintro s₃ rfl
    obtain ⟨W, ⟨m0, w0⟩, turn⟩ := hW
    subst hXe
    have stat : ∀ {H' : Hp} {oD : Obj}, (∀ b ∈ fp, H' b = none) → ∀ b ∈ fp, FpOk (cxComp X scope P2.objs.size (compN N0 own cap) s2 H2 fp) [(s2.heap.objs.size, oD)] H' b := fun {H' oD} hn b hb =>
      ⟨hn b hb, (below b (ltf b hb)).1, fun z => by
        rcases List.mem_cons.mp (I2.stkSub b z) with z | z
        · exact (f2 b hb).2.1 z
        · exact (f2 b hb).2.2.1 z, .inl hb, fun x c h => (f2 b hb).2.2.2.2.1 x c (clos_lookup I2 hsc ok h), fun p hp => by
        have e : p = (s2.heap.objs.size, oD) := by simpa [cxComp] using hp
        rw [e]; exact hDno b hb⟩
    have notcell : ∀ x c, (closOf scope X.env).lookup x = some c → c ≠ s2.heap.objs.size := fun x c h z => by
      obtain ⟨v, o, ho, hd⟩ := I2.cell x c (clos_lookup I2 hsc ok h)
      exact absurd (Heap.lt_size ho) (by rw [z]; exact Nat.lt_irrefl _)
    have nofs : s2.heap.objs.size ∉ frs X.stack := fun z => by
      rcases List.mem_cons.mp (I2.stkSub _ z) with z | z
      · exact absurd I2.lt (by rw [z]; exact Nat.lt_irrefl _)
      · exact I2.nofs (Nat.le_refl _) z
    have pinD : ∀ {σ' : St} {H' : Hp} {s' : Shared} {its : Array Value} {k : Nat}, Inv (cxComp X scope P2.objs.size (compN N0 own cap) s2 H2 fp) [] σ' H' s' → H' s2.heap.objs.size = none →
        s'.heap.get? s2.heap.objs.size = some { cls := .type "list", data := .seq its k } → Inv (cxComp X scope P2.objs.size (compN N0 own cap) s2 H2 fp) [(s2.heap.objs.size, { cls := .type "list", data := .seq its k })] σ' H' s' :=
      fun {σ' H' s' its k} I hn hd => I.pins_of fun p hp => by
        have e : p = (s2.heap.objs.size, { cls := .type "list", data := .seq its k }) := by simpa using hp
        subst e
        exact ⟨hd, hn, hDC, nofs, fun v z => by cases z⟩
    obtain ⟨k0, hk0⟩ := hacc
    refine codeAny_compLoop_go (env := compEnvC scope (closOf scope X.env) P2.objs.size X.env)
      (fun n s' => ∃ i ys its k σ' H', Inv (cxComp X scope P2.objs.size (compN N0 own cap) s2 H2 fp) [(s2.heap.objs.size, { cls := .type "list", data := .seq its k })] σ' H' s' ∧ tn i s'.heap ∧ (∀ b ∈ fp, H' b = none) ∧ Vals ys its.toList ∧ W i n ys σ' H') ?_ m0
      ⟨0, [], #[], k0, _, H2, pinD (comp_inv I2 hsc hN0 ok T st2 f2 _ hCle old hns₁) (I2.hok.fresh (Nat.le_refl _)) hk0, st₁, fun b hb => (f2 b hb).1, .nil, w0⟩
    rintro n s3 ⟨i, ys, its, k, σ3, H3, I3, st3, fr3, hv, w3⟩
    rcases turn i n ys σ3 H3 w3 with ⟨stop, qn⟩ | ⟨go, hsz, N, hN, step⟩
    · refine thn (T.done (cxComp X scope P2.objs.size (compN N0 own cap) s2 H2 fp) rfl rfl rfl hc i _ s3 σ3 H3 _ I3 (stat fr3) st3 stop) fun r s4 ⟨hr, I4⟩ => ?_
      subst hr
      show RR _ _ (.ok .next) s4
      obtain ⟨hd4, hn4, _⟩ := I4.pin (s2.heap.objs.size, { cls := .type "list", data := .seq its k }) (by simp [cxComp])
      dsimp only at hd4 hn4
      obtain ⟨m4, hns4, _⟩ := id I4.loc
      have hns4' : s4.heap.Ns P2.objs.size m4 := hns4
      obtain ⟨oC, es, ep, hoC, rC⟩ := id hns4'
      have cne : P2.objs.size ≠ s2.heap.objs.size := hDC.symm
      have freeC : H3 P2.objs.size = none := I4.free
      have hchC : FpOk X pins (upd H3 s2.heap.objs.size (.lst ys)) P2.objs.size := I2.fpOk hCle (by rw [upd_ne cne]; exact freeC)
      have hlen : ys.length = its.size := by have e := hv.length; simpa using e
      have I5 : Inv X pins σ (upd H3 s2.heap.objs.size (.lst ys)) s4 := by
        refine I2.call' (ch := fp) I4.os ⟨I4.base.keep, I4.base.slot, fun b o e n hx => ?_, I4.base.there, fun b xs e => ?_, fun b o u e => ?_, fun b ps e => ?_⟩ (fun b u e => ?_) I4.bare fun b hb => ?_
        · rw [upd_ne (Nat.ne_of_lt (Heap.lt_size e))]; exact I4.base.free b o e n hx
        · have q := I4.base.tups b xs e
          rw [upd_ne (ne_of_none q hn4)]; exact q
        · have q := I4.base.frzs b o u e
          rw [upd_ne (ne_of_none q hn4)]; exact q
        · obtain ⟨more, q⟩ := I4.base.tbls b ps e
          exact ⟨more, by rw [upd_ne (ne_of_none q hn4)]; exact q⟩
        · by_cases hb : b = s2.heap.objs.size
          · subst hb
            rw [upd_same] at e
            cases e
            exact ⟨hQsz ys H3 qn, its.toList, k, hv, by simpa using hd4⟩
          · rw [upd_ne hb] at e
            exact (I4.hok b u e).stay (fun _ _ _ q => q) (fun c q => by rw [upd_ne (ne_of_none q hn4)]; exact q) fun c xs q => by rw [upd_ne (ne_of_none q hn4)]; exact q
        · obtain ⟨_, a2, _, a4, a5, a6⟩ := f2 b hb
          exact ⟨a4, a2, a5, a6⟩
      refine hRR s2.heap.objs.size P2.objs.size oC ys H3 s4 (I5.pins_of fun p hp => ?_) (fun h e => ⟨m4, oC, es, ep, e, rC⟩) hchC hn4 qn
      rcases List.mem_append.mp hp with z | z
      · exact I5.pin p (List.mem_append_right _ z)
      · have e : p = (P2.objs.size, oC) := by simpa using z
        subst e
        exact ⟨hoC, hchC.1, hchC.2.1, hchC.2.2.1, fun v z => by
          have := rC.1
          rw [this] at z; cases z⟩
    · refine thn (T.item (cxComp X scope P2.objs.size (compN N0 own cap) s2 H2 fp) rfl rfl rfl hc i _ s3 σ3 H3 _ I3 (stat fr3) st3 go) fun r s4 ⟨u, hr, h4⟩ => ?_
      subst hr
      refine thn h4 fun _ s5 ⟨x, H5, I5, r5, y5, st5, fr5⟩ => ?_
      have I5' := I5.pinned (stat fr5) (T.obj _ _ st5)
      refine thn (hg _ _ _ _ _ s5 σ3 H5 x u _ I5' r5 (step x H5 y5)) fun _ s6 ⟨σ6, H6, I6, q6⟩ => ?_
      refine thn (ht _ _ _ _ _ s6 σ6 H6 _ I6 q6) fun b s7 ⟨H7, I7, q7⟩ => ?_
      have keepT : ∀ {σ' : St} {H' : Hp} {s' : Shared}, Inv (cxComp X scope P2.objs.size (compN N0 own cap) s2 H2 fp) ([(s2.heap.objs.size, { cls := .type "list", data := .seq its k })] ++ pinsAt fp s5.heap) σ' H' s' → tn (i + 1) s'.heap ∧ ∀ b ∈ fp, H' b = none := fun {σ' H' s'} I' => by
        refine ⟨T.keep _ _ _ st5 fun b hb o e => (I'.pin (b, o) (List.mem_append_right _ (List.mem_append_right _ (mem_pinsAt hb e)))).1, fun b hb => ?_⟩
        obtain ⟨o, e, d⟩ := T.obj _ _ st5 b hb
        exact (I'.pin (b, o) (List.mem_append_right _ (List.mem_append_right _ (mem_pinsAt hb e)))).2.1
      cases b with
      | false =>
        rw [if_neg Bool.false_ne_true] at q7 ⊢
        obtain ⟨m', hm, w7⟩ := hN _ _ _ q7
        obtain ⟨a, b⟩ := keepT I7
        exact ⟨m', hm, i + 1, ys, its, k, σ6, H7, I7.unpinned, a, b, hv, w7⟩
      | true =>
        rw [if_pos rfl] at q7 ⊢
        refine thn (he _ _ _ _ _ s7 σ6 H7 _ I7 q7) fun v s8 ⟨y, H8, I8, r8, q8⟩ => ?_
        obtain ⟨m', hm, w8⟩ := hN _ _ _ q8
        obtain ⟨a, b⟩ := keepT I8
        obtain ⟨hd8, hn8, _⟩ := I8.pin (s2.heap.objs.size, { cls := .type "list", data := .seq its k }) (by simp [cxComp])
        dsimp only at hd8 hn8
        have hl : its.size ≤ sizeLine := by
          have e := hv.length
          simp at e
          omega
        refine wpAny_list_append_plain (hsz := hl) ⟨k, hd8⟩ fun h9 hl9 hs9 => ?_
        obtain ⟨k9, hd9⟩ := hl9
        have I8' : Inv (cxComp X scope P2.objs.size (compN N0 own cap) s2 H2 fp) [] σ6 H8 s8 := I8.pins_of fun p hp => absurd hp (by simp)
        have I9 : Inv (cxComp X scope P2.objs.size (compN N0 own cap) s2 H2 fp) [] σ6 H8 { s8 with heap := h9 } :=
          I8'.turned (t' := s8.toks) (it := s2.heap.objs.size) (fun b o hb e => hs9.extBut b o hb e) hn8 hDC (.inr (Nat.le_refl _)) notcell (fun p hp => absurd (show p ∈ ([] : List (Addr × Obj)) from hp) (by simp))
        refine ⟨m', hm, i + 1, ys ++ [y], its.push v, k9, σ6, H8, pinD I9 hn8 hd9, T.keep _ _ _ a fun b hb o e => hs9.extBut b o (hDno b hb).symm e, b, ?_, w8⟩
        rw [Array.toList_push]
        exact hv.append (.cons r8 .nil)
  exact codeAny_compStart_list (loop _ rfl) (T.self _ 0 _ _ _ st₁ (loop _ rfl))
theorem pe_comp {wi : TI} (sc0 : Scope) (N0 own : List Str) (cap : List Nat) (hc : X.calm = true) (hi : PI X tg iter wi)
    (hg : ∀ C s H ex, PG (cxComp X scope C (compN N0 own cap) s H ex) tg g) (ht : ∀ C s H ex, PIfs (cxComp X scope C (compN N0 own cap) s H ex) ifs tt) (he : ∀ C s H ex, PE (cxComp X scope C (compN N0 own cap) s H ex) elt te)
    (hsc : X.env.scope = sc0 := by rfl) (hN0 : X.N = N0 := by rfl) (ok : compOk sc0 N0 scope own cap = true := by decide +kernel) (hs : ∀ x, foldedSetIterable iter X.env x = pure x := by intro _; rfl) :
    PE X (.ListComp elt [⟨tg, iter, ifs, 0⟩] scope pos) (tComp wi own cap g tt te) := by
  intro pins s σ H Q I h
  have ok := CompOk.of ok
  rw [eval_ListComp]
  refine wpAny_comprehension_free (use := none) rfl hs (closureFor_eq (clos_has I hsc ok)) ok.kind ok.names (thn (hi pins s σ H _ I h) fun xv s1 h1 => thn h1 fun itv s2 h2 => ?_)
  obtain ⟨it, fp, tn, J, H2, e, I2, T, st2, f2, hW⟩ := h2
  subst e
  refine comp_block (RR := fun acc C => compPost (model X.prog X.w) X.A X.xe none (EP X pins σ Q) acc C) hc I2 hsc hN0 ok hg ht he T st2 f2 hW (fun D C oC ys H' s' I' hns fpC hD q => ?_) fun ys H' q => q.1
  obtain ⟨hC, hCn, _⟩ := I'.pin (C, oC) (by simp)
  obtain ⟨m, hm⟩ := hns _ hC
  refine ⟨m, hm, fun h' hs' => ⟨.ref D, upd H' D (.lst ys), ?_, rfl, q.2 D hD⟩⟩
  obtain ⟨f0, f1, f2', f3, f4, f5⟩ := fpC
  exact I'.unpinned.turned (t' := s'.toks) (it := C) (fun b o hb e => hs'.extBut b o hb e) f0 f1 f3 f4 f5
theorem ps_setC {wi : TI} {i : Nat} {x : Str} {pos' spos : Pos} (sc0 : Scope) (N0 own : List Str) (cap : List Nat) (hN : X.N.Nodup) (hx : X.N[i]? = some x) (hl : Loc X.env.scope x) (hc : X.calm = true) (hi : PI X tg iter wi)
    (hg : ∀ C s H ex, PG (cxComp X scope C (compN N0 own cap) s H ex) tg g) (ht : ∀ C s H ex, PIfs (cxComp X scope C (compN N0 own cap) s H ex) ifs tt) (he : ∀ C s H ex, PE (cxComp X scope C (compN N0 own cap) s H ex) elt te)
    (hsw : swapsWith (.ListComp elt [⟨tg, iter, ifs, 0⟩] scope pos) (some (.Name x pos')) spos.line X.env = pure true := by rfl)
    (hf : X.fn x = true ∨ X.env.scope.names.lookup x = some .local := by first | exact .inl rfl | exact .inr rfl | assumption)
    (hsc : X.env.scope = sc0 := by rfl) (hN0 : X.N = N0 := by rfl) (ok : compOk sc0 N0 scope own cap = true := by decide +kernel) (hs : ∀ x, foldedSetIterable iter X.env x = pure x := by intro _; rfl) :
    PS X (.Assign [.Name x pos'] (.ListComp elt [⟨tg, iter, ifs, 0⟩] scope pos) spos) (tAsg (tComp wi own cap g tt te) (gName i)) := by
  intro pins s σ H D I h
  have ok := CompOk.of ok
  rw [exec_Assign_Name_used _ _ _ _ hsw]
  refine wpAny_bind (wpAny_standAt (wpAny_bind ?_))
  show wpAny _ X.A (do let _ ← comprehension (.ListComp elt [⟨tg, iter, ifs, 0⟩] scope pos) scope X.env _ (newList []) false (eval iter X.env) (some (assign (.Name x pos') X.env))) _ _ s
  refine wpAny_bind (wpAny_mono (wpAny_comprehension_free (use := some (assign (.Name x pos') X.env)) (Q := fun _ s' => SP X pins D .next s') rfl hs (closureFor_eq (clos_has I hsc ok)) ok.kind ok.names
    (thn (hi pins s σ H _ I h) fun xv s1 h1 => thn h1 fun itv s2 h2 => ?_)) (fun _ s' hq => wpAny_pure (wpAny_pure hq)) fun _ _ e => e)
  obtain ⟨it, fp, tn, J, H2, e, I2, T, st2, f2, hW⟩ := h2
  subst e
  refine comp_block (RR := fun acc C => compPost (model X.prog X.w) X.A X.xe (some (assign (.Name x pos') X.env)) (fun _ s' => SP X pins D .next s') acc C) hc I2 hsc hN0 ok hg ht he T st2 f2 hW (fun Da C oC ys H' s' I' hns fpC hD q => ?_) fun ys H' q => q.1
  show wpAny _ X.A (assign (.Name x pos') X.env (.ref Da)) _ _ _
  refine wpAny_assign_Name (store_ok (v := .ref Da) I' hN hx hl rfl (fun s'' I'' => ?_) hf)
  obtain ⟨hC, hCn, _⟩ := I''.pin (C, oC) (by simp)
  obtain ⟨m, hm⟩ := hns _ hC
  refine ⟨m, hm, fun h' hs' => ⟨σ.set i (some (.ref Da)), upd H' Da (.lst ys), ?_, q.2 Da hD⟩⟩
  obtain ⟨f0, f1, f2', f3, f4, f5⟩ := fpC
  exact I''.unpinned.turned (t' := s''.toks) (it := C) (fun b o hb e => hs'.extBut b o hb e) f0 f1 f3 f4 f5
end
end L2
namespace L2
open PySem PySem.Spec PyProof.Rows
def Can (P : Program) (w : World) (K : PySem.W.Frag) (mg : Str → Option Value) (base : Heap) (x : Str) (ps : List Str) (k : Nat) (sp : Sp) : Prop :=
  ∃ f fd, mg x = some (.ref f) ∧ PySem.W.keepIn K (.ref f) = true ∧ Binds K fd ps [] ∧ FnOk P w K mg base CX0 k f fd ps sp ∧ ∃ oc od osl, K.lookup f = some ⟨oc, od, .func fd, osl⟩
def Def (K : PySem.W.Frag) (mg : Str → Option Value) (x : Str) (st : Stmt) : Prop := ∃ f fd, mg x = some (.ref f) ∧ Fun K x x st f fd
section
variable {P : Program} {w : World} {K : PySem.W.Frag} {mg : Str → Option Value} {base : Heap}
theorem Def.can {x : Str} {st : Stmt} {N ps : List Str} {k : Nat} {sp : Sp} (D : Def K mg x st) (S : FnScope N ps (defScope st))
    (hb : ∀ (kV doc pm : Value) (an : Option Addr) (cdv ct : Value) (us : List Value), us.length = ps.length → bindArgs (PySem.W.fnOf x x (defArgs st) (defBody st) (defScope st) .none kV doc pm an cdv ct) ⟨us, []⟩ = pure (ps.zip us))
    (len : ∀ vs H Q E, sp vs H Q E → vs.length = ps.length)
    (hbody : ∀ (f : Addr) (cdv : Value) (A : Around) (outer : List Env) (s : Shared) (H : Hp) (vs : List V) (Q : VK) (E : XK), Room k (A.deeper (envOfC x (defScope st) s.heap.objs.size f cdv)) → sp vs H Q E →
      ∃ t, PSs (cxOf CX0 P w K mg base N x (defScope st) f cdv A outer s H E).nox (defBody st) t ∧ t { nx := fun _ H' => Q .non H', rt := Q } (start N vs) H) : Can P w K mg base x ps (k + 1) sp := by
  obtain ⟨f, fd, hm, F⟩ := D
  obtain ⟨oc, od, _, _, _, _, _, _, osl, _, lk, _⟩ := F.ex
  exact ⟨f, fd, hm, F.kp, F.binds hb, F.ok S len fun cdv A outer s H vs Q E hr h => hbody f cdv A outer s H vs Q E hr h, oc, od, osl, lk⟩
end
section
variable {X : Cx} {k : Nat} {x : Str} {ps : List Str} {sp : Sp} {p pos : Pos} {e : Expr} {es : List Expr} {t : TA}
theorem pe_can (C : Can X.prog X.w X.K X.mg X.base x ps k sp) (hr : Room k X.A) (ha : PA X (e :: es) t) (hg : Gl X x := by rfl) (hdb : (x == ("__debug__" : Str)) = false := by decide)
    (he : starEach (e :: es) X.env = (false, eval e X.env) :: starEach es X.env := by rfl) (hpl : (backTo pos (starEach es X.env)).any (·.1) = false := by rfl) :
    PE X (.Call (.Name x p) (e :: es) [] pos) (tCall sp [] E0 t) := by
  obtain ⟨f, fd, hm, hk, hb, F, _⟩ := C
  exact pe_call F hr hg hm hk hb .nil pass0 ha hdb he hpl
theorem pe_can0 (C : Can X.prog X.w X.K X.mg X.base x ps k sp) (hr : Room k X.A) (hg : Gl X x := by rfl) (hdb : (x == ("__debug__" : Str)) = false := by decide) :
    PE X (.Call (.Name x p) [] [] pos) (tCall sp [] E0 tNil) := by
  obtain ⟨f, fd, hm, hk, hb, F, _⟩ := C
  exact pe_call0 F hr hg hm hk hb .nil pass0 hdb
end
theorem Same.seqT {K : PySem.W.Frag} {H H' : Hp} {a : Addr} {xs : List V} (e : Same H H') (h : SqT K H a xs) : SqT K H' a xs := by
  rcases h with (h | ⟨o, h⟩) | h
  · exact .inl (.inl (e _ _ h))
  · exact .inl (.inr ⟨o, e _ _ h⟩)
  · exact .inr h
mutual
def Rep (K : PySem.W.Frag) (H : Hp) : V → PyData → Prop
  | v, .none => v = .non
  | v, .bool b => v = .bl b
  | v, .int i => v = .int i
  | v, .str x => v = .str x
  | v, .list ds => ∃ a xs, v = .ref a ∧ SqL K H a xs ∧ Reps K H xs ds
  | v, .tuple ds => ∃ a xs, v = .ref a ∧ SqT K H a xs ∧ Reps K H xs ds
  | _, .dict _ => False
def Reps (K : PySem.W.Frag) (H : Hp) : List V → List PyData → Prop
  | xs, [] => xs = []
  | xs, d :: ds => ∃ x r, xs = x :: r ∧ Rep K H x d ∧ Reps K H r ds
end
mutual
theorem Rep.mono {K : PySem.W.Frag} {H H' : Hp} (e : Same H H') : ∀ (d : PyData) {v : V}, Rep K H v d → Rep K H' v d
  | .none, v, h => by rw [Rep] at h ⊢; exact h
  | .bool b, v, h => by rw [Rep] at h ⊢; exact h
  | .int i, v, h => by rw [Rep] at h ⊢; exact h
  | .str x, v, h => by rw [Rep] at h ⊢; exact h
  | .list ds, v, h => by
    rw [Rep] at h ⊢
    obtain ⟨a, xs, h1, h2, h3⟩ := h
    exact ⟨a, xs, h1, e.seq h2, Reps.mono e ds h3⟩
  | .tuple ds, v, h => by
    rw [Rep] at h ⊢
    obtain ⟨a, xs, h1, h2, h3⟩ := h
    exact ⟨a, xs, h1, e.seqT h2, Reps.mono e ds h3⟩
  | .dict _, v, h => by rw [Rep] at h; exact h.elim
theorem Reps.mono {K : PySem.W.Frag} {H H' : Hp} (e : Same H H') : ∀ (ds : List PyData) {xs : List V}, Reps K H xs ds → Reps K H' xs ds
  | [], xs, h => by rw [Reps] at h ⊢; exact h
  | d :: ds, xs, h => by
    rw [Reps] at h ⊢
    obtain ⟨x, r, h1, h2, h3⟩ := h
    exact ⟨x, r, h1, Rep.mono e d h2, Reps.mono e ds h3⟩
end
theorem Reps.nil {K : PySem.W.Frag} {H : Hp} : Reps K H [] [] := by rw [Reps]
theorem Reps.cons {K : PySem.W.Frag} {H : Hp} {x : V} {xs : List V} {d : PyData} {ds : List PyData} (h : Rep K H x d) (hs : Reps K H xs ds) : Reps K H (x :: xs) (d :: ds) := by
  rw [Reps]; exact ⟨x, xs, rfl, h, hs⟩
section
variable {X : Cx} {pins : List (Addr × Obj)} {σ : St} {H : Hp} {s : Shared}
mutual
theorem Rep.reads (I : Inv X pins σ H s) : ∀ (d : PyData) {v : V} {u : Value}, Rep X.K H v d → RelV v u → ∃ as, Reads s.heap u d as
  | .none, v, u, h, r => by rw [Rep] at h; subst h; cases (show u = .none from r); exact ⟨_, .none⟩
  | .bool b, v, u, h, r => by rw [Rep] at h; subst h; cases (show u = .bool b from r); exact ⟨_, .bool b⟩
  | .int i, v, u, h, r => by rw [Rep] at h; subst h; obtain ⟨t, rfl⟩ := (show ∃ t, u = .int i t from r); exact ⟨_, .int i t⟩
  | .str x, v, u, h, r => by rw [Rep] at h; subst h; obtain ⟨t, rfl⟩ := (show ∃ t, u = .str x t from r); exact ⟨_, .str x t⟩
  | .list ds, v, u, h, r => by
    rw [Rep] at h
    obtain ⟨a, xs, rfl, h2, h3⟩ := h
    cases (show u = .ref a from r)
    obtain ⟨its, rv, pl, _⟩ := I.list h2
    obtain ⟨as, q⟩ := Reps.reads I ds h3 rv
    obtain ⟨o, ho, hc, n, hd⟩ := pl.isList
    exact ⟨_, .list ho hc hd (by simpa using q)⟩
  | .tuple ds, v, u, h, r => by
    rw [Rep] at h
    obtain ⟨a, xs, rfl, h2, h3⟩ := h
    cases (show u = .ref a from r)
    obtain ⟨its, rv, pl, _⟩ := I.tuple h2
    obtain ⟨as, q⟩ := Reps.reads I ds h3 rv
    obtain ⟨o, ho, hc, n, hd⟩ := pl
    exact ⟨_, .tuple ho hc hd (by simpa using q)⟩
  | .dict _, v, u, h, r => by rw [Rep] at h; exact h.elim
theorem Reps.reads (I : Inv X pins σ H s) : ∀ (ds : List PyData) {xs : List V} {us : List Value}, Reps X.K H xs ds → Vals xs us → ∃ as, ReadsAll s.heap us ds as
  | [], xs, us, h, r => by rw [Reps] at h; subst h; cases r; exact ⟨_, .nil⟩
  | d :: ds, xs, us, h, r => by
    rw [Reps] at h
    obtain ⟨x, rest, rfl, h2, h3⟩ := h
    cases r with
    | cons r1 r2 =>
      obtain ⟨as, q⟩ := Rep.reads I d h2 r1
      obtain ⟨bs, q'⟩ := Reps.reads I ds h3 r2
      exact ⟨_, .cons q q'⟩
end
end
def okD (d : PyData) : Bool := d.canLay0 && decide (d.depth ≤ 60)
def rEqD (K : PySem.W.Frag) (neg : Bool) : R2 := fun x y H Q => ∃ d e, Rep K H x d ∧ Rep K H y e ∧ okD d = true ∧ okD e = true ∧ Q (.bl (if neg then !PyData.eqv d e else PyData.eqv d e)) H
section
variable {X : Cx}
theorem op_eqD {k : Nat} (hr : Room k X.A) : OpR X (compareOp .Eq) (rEqD X.K false) := by
  intro pins s σ H x y v u Q I rx ry h
  obtain ⟨d, e, h1, h2, k1, k2, q⟩ := h
  obtain ⟨as, r1⟩ := Rep.reads I d h1 rx
  obtain ⟨bs, r2⟩ := Rep.reads I e h2 ry
  unfold okD at k1 k2
  simp only [Bool.and_eq_true, decide_eq_true_eq] at k1 k2
  exact SeqAt.compareEq_reads r1 r2 k1.1 k2.1 (by have := hr.units; omega) ⟨.bl _, H, I, rfl, q⟩
theorem op_neD {k : Nat} (hr : Room k X.A) : OpR X (compareOp .NotEq) (rEqD X.K true) := by
  intro pins s σ H x y v u Q I rx ry h
  obtain ⟨d, e, h1, h2, k1, k2, q⟩ := h
  obtain ⟨as, r1⟩ := Rep.reads I d h1 rx
  obtain ⟨bs, r2⟩ := Rep.reads I e h2 ry
  unfold okD at k1 k2
  simp only [Bool.and_eq_true, decide_eq_true_eq] at k1 k2
  exact SeqAt.compareNe_reads r1 r2 k1.1 k2.1 (by have := hr.units; omega) ⟨.bl _, H, I, rfl, q⟩
end
def S (l : List Nat) : Str := ⟨l.toArray⟩
theorem S_cps (l : List Nat) : (S l).cps.toList = l := by simp [S]
theorem S_length (l : List Nat) : (S l).length = l.length := by simp [S, Str.length]
theorem S_append (a b : List Nat) : S a ++ S b = S (a ++ b) := by
  show Str.mk _ = Str.mk _
  simp [S]
theorem S_inj {a b : List Nat} (h : S a = S b) : a = b := by have := congrArg (fun x : Str => x.cps.toList) h; simpa [S_cps] using this
section
variable {X : Cx}
def Its (l : List Nat) : It := ⟨fun i _ => i < l.length, fun i H x H' => H' = H ∧ ∃ c, l[i]? = some c ∧ x = .str (S [c]), fun i _ => l.length ≤ i⟩
theorem turn_str {P : Program} {w : World} {K : PySem.W.Frag} {tg : Expr} (l : List Nat) (it : Addr) (t : Tok) : Turn P w K tg (Its l) [it] it (fun i h => h.IsStrIter it "str_ascii_iterator" (S l) t i) where
  mem := by simp
  obj := fun i h st b hb => by
    have e : b = it := by simpa using hb
    subst e
    obtain ⟨o, e, c, d⟩ := st
    exact ⟨o, e, fun v z => by rw [d] at z; cases z⟩
  keep := fun i h h' st k => let ⟨o, ho, r⟩ := st; ⟨o, k it (by simp) o ho, r⟩
  item := by
    intro X hP hw hK hc i pins s σ H E I hf st hg
    subst hP hw hK
    obtain ⟨f0, f1, f2, f3, f4, f5⟩ := hf it (by simp)
    have hg' : i < l.length := hg
    refine wpAny_pyNext_ascii_item st (c := l[i]) (by simp [S, hg']) fun h' st' sb => ?_
    have I1 : Inv X pins σ H { s with heap := h', toks := s.toks + 1 } := I.turned (fun b o hb e => (sb.2 b hb).trans e) f0 f1 f3 f4 f5
    obtain ⟨o, e, c, d⟩ := id st'
    exact ⟨_, rfl, go_of (s := { s with heap := h', toks := s.toks + 1 }) e c d (by decide) ⟨.str (S [l[i]]), H, I1, ⟨_, rfl⟩, ⟨rfl, l[i], by simp [hg'], rfl⟩, st', fun b hb => (hf b hb).1⟩⟩
  done := by
    intro X hP hw hK hc i pins s σ H E I hf st hg
    subst hP hw hK
    obtain ⟨f0, f1, f2, f3, f4, f5⟩ := hf it (by simp)
    have hg' : l.length ≤ i := hg
    exact wpAny_pyNext_ascii_end (I.ok.hd hc) st (by simp [S, hg']) fun h' eb => ⟨rfl, I.turned (t' := s.toks) (fun b o hb e => eb b o hb e) f0 f1 f3 f4 f5⟩
  self := fun _ _ _ _ _ st h => wpAny_pyIter_striter_ascii st h
def ascii (l : List Nat) : Bool := l.all (· < 128)
def iStr (tl : TE) : TI := fun σ H R => tl σ H fun x H1 => ∃ l, x = .str (S l) ∧ ascii l = true ∧ R (Its l) H1
theorem pi_str {tg e : Expr} {tl : TE} (hl : PE X e tl) : PI X tg e (iStr tl) := by
  intro pins s σ H R I h
  refine thn (hl pins s σ H _ I h) fun v s1 ⟨x, H1, I1, r1, q1⟩ => ?_
  obtain ⟨l, e, ha, q⟩ := q1
  subst e
  obtain ⟨t, rfl⟩ := r1
  refine wpAny_pyIter_ascii (by simpa [S, ascii] using ha) ?_
  refine ⟨s1.heap.objs.size, [s1.heap.objs.size], _, _, H1, rfl, I1.kept (t' := s1.toks) fun b o e => Heap.get?_push_of_some _ e, turn_str l _ t, ⟨_, Heap.get?_push_size _ rfl, rfl, rfl⟩, fun b hb => ?_, q⟩
  have e : b = s1.heap.objs.size := by simpa using hb
  subst e
  exact I1.fpOk (Nat.le_refl _) (I1.hok.fresh (Nat.le_refl _))
end
end L2
namespace L2
open PySem PySem.Spec PyProof.Rows
structure Blt (mg : Str → Option Value) : Prop where
  len_ : mg "len" = none
  isinstance_ : mg "isinstance" = none
  all_ : mg "all" = none
  sum_ : mg "sum" = none
  max_ : mg "max" = none
  min_ : mg "min" = none
  int_ : mg "int" = none
  str_ : mg "str" = none
  bool_ : mg "bool" = none
  list_ : mg "list" = none
  tuple_ : mg "tuple" = none
  dict_ : mg "dict" = none
  range_ : mg "range" = none
  enumerate_ : mg "enumerate" = none
  zip_ : mg "zip" = none
section
variable {X : Cx}
theorem pe_const {x : Str} {v : V} {pos : Pos} (h : ∃ u, X.mg x = some u ∧ RelV v u) (hg : Gl X x := by rfl) (hd : (x == ("__debug__" : Str)) = false := by decide) : PE X (.Name x pos) (tC v) := by
  obtain ⟨u, hm, r⟩ := h
  exact pe_glob hg hm r hd
end
def cutN {α : Type} (l : List α) (lo hi : Option Int) : List α := (l.drop (HT.sIx l.length 0 lo)).take (HT.sIx l.length l.length hi - HT.sIx l.length 0 lo)
theorem slice_S (l : List Nat) (lo hi : Option Int) : Txt.slice (S l) lo hi = S (cutN l lo hi) := by
  obtain ⟨h1, h2, h3⟩ := slice_bounds lo hi l.length
  have e : Builtin.Str.strSliceIndices lo hi 1 (S l).length = (List.range (HT.sIx l.length l.length hi - HT.sIx l.length 0 lo)).map (HT.sIx l.length 0 lo + ·) := by
    rw [S_length]
    show sliceRange (sliceBounds lo hi none l.length).1 (sliceBounds lo hi none l.length).2.1 (sliceBounds lo hi none l.length).2.2 = _
    rw [h1, h2, h3, sliceRange_one]
  unfold Txt.slice
  rw [e, pick_run, S_cps]
  split
  · rename_i h
    have hl : HT.sIx l.length l.length hi - HT.sIx l.length 0 lo = l.length := by simpa [S_length] using h
    have hle : HT.sIx l.length l.length hi ≤ l.length := HT.sIx_le _ _ (Nat.le_refl _) hi
    have hlo : HT.sIx l.length 0 lo ≤ l.length := HT.sIx_le _ _ (Nat.zero_le _) lo
    have h0 : HT.sIx l.length 0 lo = 0 := by omega
    have h1 : HT.sIx l.length l.length hi = l.length := by omega
    unfold cutN
    rw [h0, h1]
    simp
  · rfl
section
variable {X : Cx}
def rSlS : V → Option Int → Option Int → Hp → VK → Prop := fun x lo hi H Q => ∃ l, x = .str (S l) ∧ l.length ≤ sizeLine ∧ Q (.str (S (cutN l lo hi))) H
theorem part_of {v : Value} {o : Option Int} (p : IsPart v o) : ∃ q : Option (Int × Tok), v = partValue q ∧ q.map (·.1) = o := by
  cases p with
  | none => exact ⟨none, rfl, rfl⟩
  | int i t => exact ⟨some (i, t), rfl, rfl⟩
theorem sl_str : SlR X rSlS := by
  intro pins s σ H x v vl vu lo hi sl Q I rx hs pl pu h
  obtain ⟨l, rfl, hz, q⟩ := h
  obtain ⟨t, rfl⟩ := rx
  obtain ⟨ql, rfl, e1⟩ := part_of pl
  obtain ⟨qu, rfl, e2⟩ := part_of pu
  refine ⟨"str", _, F.slot_str_getitem.lookup, typeIs_str _ _ _, ?_⟩
  refine wpAny_getItem_str_slice (l := ql) (u := qu) (st := none) hs rfl ?_
  have key : (if ((1 : Int) == 1 && (Builtin.Str.strSliceIndices lo hi 1 (S l).length).length == (S l).length) = true then S l else ⟨((Builtin.Str.strSliceIndices lo hi 1 (S l).length).filterMap ((S l).cps[·]?)).toArray⟩) = S (cutN l lo hi) := slice_S l lo hi
  unfold sliceMade slicePicked
  rw [e1, e2]
  refine post_val_or_str ⟨?_, fun t' k => ?_⟩
  · show (Txt.slice (S l) lo hi).length ≤ _
    exact Nat.le_trans (Txt.slice_le _ _ _) (by rw [S_length]; exact hz)
  · have e3 := slice_S l lo hi
    unfold Txt.slice at e3
    show EP X pins σ Q (.str (if ((1 : Int) == 1 && (Builtin.Str.strSliceIndices lo hi 1 (S l).length).length == (S l).length) = true then S l else ⟨((Builtin.Str.strSliceIndices lo hi 1 (S l).length).filterMap ((S l).cps[·]?)).toArray⟩) t') { s with toks := k }
    rw [e3]
    exact ⟨.str _, H, I.tok k, ⟨t', rfl⟩, q⟩
end
namespace HT2
theorem getItem_tuple_whole {prog : Program} {w : World} {A : Around} {E : Value → Shared → Prop} {s : Shared} {t sl : Addr} {items : Array Value} {vl vu : Value} {lo hi : Option Int} {Q : Value → Shared → Prop} (ht : IsTup s.heap t items) (hs : s.heap.IsSliceOf sl vl vu .none) (pl : IsPart vl lo) (pu : IsPart vu hi)
    (hw : HT.sIx items.size 0 lo = 0 ∧ HT.sIx items.size items.size hi = items.size) (h : Q (.ref t) s) : wpAny (model prog w) A (getItem (.ref t) (.ref sl)) Q E s := by
  obtain ⟨os, hos, hcs, hds⟩ := id hs
  have hTs : s.TypeIs (.ref sl) "slice" := ⟨os, hos, hcs⟩
  unfold getItem
  try with_reducible refine wpAny_holding ?_
  first | refine wpAny_bind (wpAny_pure ?_) | skip
  refine wpAny_bind (wpAny_sequenceKey ht.typeIs (by decide) ?_)
  refine wpAny_bind (wpAny_callSpecial?_slot (name := Str.ofString "__getitem__") ht.typeIs PyProof.Rows.slot_tuple_getitem
    (wpAny_call_entry PyProof.Rows.slot_tuple_getitem ht.typeIs entry_tuple_getitem ?_ (args_tuple_getitem _ _)))
  show wpAny _ _ (Builtin.Tuple.tupleItemsOf (.ref t) >>= _) _ _ s
  refine wpAny_bind (tupleItemsOf_ ht ?_)
  refine wpAny_bind (wpAny_typeOf hTs ?_)
  rw [if_pos (by decide)]
  refine wpAny_bind (HT.sliceApplied_gen hs pl pu ?_)
  have hyes : (((HT.sIx items.size 0 lo : Nat) : Int) == 0 && (1 : Int) == 1 && (HT.sIx items.size items.size hi - HT.sIx items.size 0 lo) == items.size) = true := by
    rw [hw.1, hw.2]
    simp
  show wpAny _ _ (if (((HT.sIx items.size 0 lo : Nat) : Int) == 0 && (1 : Int) == 1 && (HT.sIx items.size items.size hi - HT.sIx items.size 0 lo) == items.size) = true then _ else _) _ _ s
  rw [if_pos hyes]
  have hex : ∀ {A' : Around} {E' : Value → Shared → Prop} {Q' : Bool → Shared → Prop}, Q' true s → wpAny (model prog w) A' (Builtin.Tuple.tupleIsExact (.ref t)) Q' E' s := fun {A' E' Q'} hq => by
    unfold Builtin.Tuple.tupleIsExact
    exact wpAny_bind (wpAny_typeOf ht.typeIs (wpAny_pure hq))
  refine wpAny_bind (hex ?_)
  rw [if_pos rfl]
  exact wpAny_bind (wpAny_rule (wpAny_pure ⟨_, rfl, wpAny_pure h⟩))
end HT2
section
variable {X : Cx}
def rSlT2 (K : PySem.W.Frag) : V → Option Int → Option Int → Hp → VK → Prop := fun x lo hi H Q => ∃ a xs, x = .ref a ∧ SqT K H a xs ∧
  ((HT.sIx xs.length 0 lo = 0 ∧ HT.sIx xs.length xs.length hi = xs.length) → Q (.ref a) H) ∧ (¬ (HT.sIx xs.length 0 lo = 0 ∧ HT.sIx xs.length xs.length hi = xs.length) → ∀ p, H p = none → Q (.ref p) (upd H p (.tup (cutV xs lo hi))))
theorem sl_tup2 (K : PySem.W.Frag) (hK : X.K = K := by rfl) : SlR X (rSlT2 K) := by
  subst hK
  intro pins s σ H x v vl vu lo hi sl Q I rx hs pl pu h
  obtain ⟨a, xs, rfl, hx, q1, q2⟩ := h
  by_cases hw : HT.sIx xs.length 0 lo = 0 ∧ HT.sIx xs.length xs.length hi = xs.length
  · cases rx
    obtain ⟨its, r, ht, hz⟩ := I.tuple hx
    have hlen : its.toArray.size = xs.length := by rw [List.size_toArray]; exact r.length.symm
    exact ⟨"tuple", _, PyProof.Rows.slot_tuple_getitem.lookup, ht.typeIs, HT2.getItem_tuple_whole ht hs pl pu (by rw [hlen]; exact hw) ⟨.ref a, H, I, rfl, q1 hw⟩⟩
  · exact sl_tup pins s σ H _ v vl vu lo hi sl Q I rx hs pl pu ⟨a, xs, rfl, hx, hw, q2 hw⟩
inductive TyQ (K : PySem.W.Frag) (H : Hp) : V → String → Prop where
  | non : TyQ K H .non "NoneType"
  | bl (x : Bool) : TyQ K H (.bl x) "bool"
  | int (i : Int) : TyQ K H (.int i) "int"
  | str (x : Str) : TyQ K H (.str x) "str"
  | lst {a : Addr} {xs : List V} (e : SqL K H a xs) : TyQ K H (.ref a) "list"
  | tup {a : Addr} {xs : List V} (e : SqT K H a xs) : TyQ K H (.ref a) "tuple"
  | dK {a : Addr} {kvs : List (Key × V)} (e : H a = some (.dK kvs)) : TyQ K H (.ref a) "dict"
def rIsQ (K : PySem.W.Frag) : List V → Hp → VK → Prop := fun xs H Q => ∃ x n t b, xs = [x, .ty n] ∧ TyQ K H x t ∧ PySem.W.kitOne K (.type t) (.type n) = some b ∧ Q (.bl b) H
theorem call_isiK (K : PySem.W.Frag) (hK : X.K = K := by rfl) : CallR X (.builtin "isinstance") (rIsQ K) := by
  subst hK
  intro pins s σ H xs us Q I r h
  obtain ⟨x, n, t, b, rfl, ty, e, q⟩ := h
  obtain ⟨u, c, rfl, r1, r2⟩ := vals2 r
  cases (show c = .type n from r2)
  have fin : ∀ tk, EP X pins σ Q (.bool b) { s with toks := tk } := fun tk => ⟨.bl b, H, I.tok tk, rfl, q⟩
  cases ty with
  | non => exact isinst_ok I r1 .non e fin
  | bl y => exact isinst_ok I r1 (.bl y) e fin
  | int i => exact isinst_ok I r1 (.int i) e fin
  | str y => exact isinst_ok I r1 (.str y) e fin
  | @lst a xs ea =>
    cases (show u = Value.ref a from r1)
    obtain ⟨its, _, p, _⟩ := I.list ea
    obtain ⟨o, ho, hc, _⟩ := p.isList
    exact PySem.W.kia_one PySem.W.kitx_list I.kIn ⟨o, ho, hc⟩ e (fun z => nomatch z) fin
  | @tup a xs ea =>
    cases (show u = Value.ref a from r1)
    obtain ⟨its, _, p, _⟩ := I.tuple ea
    obtain ⟨o, ho, hc, _⟩ := p
    exact PySem.W.kia_one PySem.W.kitx_tuple I.kIn ⟨o, ho, hc⟩ e (fun z => nomatch z) fin
  | @dK a kvs ea => exact isinst_ok I r1 (.dK ea) e fin
theorem kit_same (K : PySem.W.Frag) (n : String) : PySem.W.kitOne K (.type n) (.type n) = some true := by
  unfold PySem.W.kitOne
  rw [if_pos (beq_self_eq_true _)]
end
theorem lay_all : ∀ {ds : List PyData}, (∀ d ∈ ds, d.canLay0 = true) → PyData.canLayAll0 ds = true
  | [], _ => rfl
  | d :: ds, h => by rw [PyData.canLayAll0, h d List.mem_cons_self, lay_all fun x hx => h x (List.mem_cons_of_mem _ hx)]; rfl
theorem deep_all {n : Nat} : ∀ {ds : List PyData}, (∀ d ∈ ds, d.depth ≤ n) → PyData.depthAll ds ≤ n
  | [], _ => by rw [PyData.depthAll]; exact Nat.zero_le _
  | d :: ds, h => by
    rw [PyData.depthAll]
    exact Nat.max_le.mpr ⟨h d List.mem_cons_self, deep_all fun x hx => h x (List.mem_cons_of_mem _ hx)⟩
theorem ok_list {n : Nat} (hn : n < 60) {ds : List PyData} (h : ∀ d ∈ ds, d.canLay0 = true ∧ d.depth ≤ n) : okD (.list ds) = true := by
  unfold okD
  rw [Bool.and_eq_true]
  refine ⟨?_, decide_eq_true ?_⟩
  · show PyData.canLayAll0 ds = true
    exact lay_all fun d hd => (h d hd).1
  · show PyData.depthAll ds + 1 ≤ 60
    have := deep_all fun d hd => (h d hd).2
    omega
end L2
namespace L2
open PySem PySem.Spec PyProof.Rows
section
variable {X : Cx}
theorem op_isB : OpR X (compareOp .Is) (fun x y H Q => ∃ a b, x = .bl a ∧ y = .bl b ∧ Q (.bl (a == b)) H) := by
  intro pins s σ H x y v u Q I rx ry h
  obtain ⟨a, b, rfl, rfl, q⟩ := h
  cases rx
  cases ry
  exact is_bool ⟨.bl (a == b), H, I, rfl, q⟩
def rMulS : R2 := fun x y H Q => ∃ (l : List Nat) (n : Int), x = .str (S l) ∧ y = .int n ∧ -1000000 < n ∧ n < 1000000 ∧ l.length * n.toNat ≤ 16777216 ∧ Q (.str (S (List.replicate n.toNat l).flatten)) H
theorem rep_S (l : List Nat) : ∀ (n : Nat) (a : Array Nat), (List.replicate n (S l).cps).foldl (· ++ ·) a = a ++ (List.replicate n l).flatten.toArray
  | 0, a => by simp
  | n + 1, a => by
    rw [List.replicate_succ, List.foldl_cons, rep_S l n, List.replicate_succ, List.flatten_cons]
    simp [S]
theorem op_mul_str : OpR X (binaryOp .Mult) rMulS := by
  intro pins s σ H x y v u Q I rx ry h
  obtain ⟨l, n, rfl, rfl, h1, h2, h3, q⟩ := h
  obtain ⟨t, rfl⟩ := rx
  obtain ⟨t', rfl⟩ := ry
  have hs : sizeLine = 16777216 := sizeLine_eq
  by_cases hn : n < 1
  · have e0 : n.toNat = 0 := by omega
    rw [e0] at q
    exact P.mul_str_none hn (by omega) ⟨.str (S []), H, I.tok _, ⟨s.toks, rfl⟩, q⟩
  refine P.mul_str ?_ (fun _ _ => ?_) (fun _ _ => ?_) ?_
  · rw [decide_eq_false (by omega), decide_eq_false (by omega)]
    rfl
  · rw [S_length]
    intro hz
    have h4 : (l.length : Int) * n ≤ 16777216 := by
      have : ((l.length * n.toNat : Nat) : Int) ≤ 16777216 := by omega
      rw [Int.natCast_mul, Int.toNat_of_nonneg (by omega)] at this
      exact this
    have h5 : (2 ^ 63 - 1) / n < (l.length : Int) := hz
    have h6 := (Int.ediv_lt_iff_lt_mul (show 0 < n by omega)).mp h5
    omega
  · rw [S_length]
    unfold Builtin.Str.tooLong
    exact decide_eq_false (by omega)
  · rw [if_neg (by omega)]
    by_cases hl : (n == 1 || (S l).length == 0) = true
    · rw [if_pos hl]
      have e : (List.replicate n.toNat l).flatten = l := by
        rw [Bool.or_eq_true, beq_iff_eq, beq_iff_eq, S_length] at hl
        rcases hl with z | z
        · rw [z]
          show (List.replicate 1 l).flatten = l
          simp
        · have z' := List.eq_nil_of_length_eq_zero z
          subst z'
          rw [List.flatten_eq_nil_iff]
          intro x hx
          exact (List.mem_replicate.mp hx).2
      rw [e] at q
      exact ⟨.str (S l), H, I, ⟨t, rfl⟩, q⟩
    · rw [if_neg hl, rep_S]
      refine ⟨?_, .str (S (List.replicate n.toNat l).flatten), H, I.tok _, ⟨s.toks, ?_⟩, q⟩
      · show (#[] ++ (List.replicate n.toNat l).flatten.toArray).size ≤ sizeLine
        simp only [Array.size_append, List.size_toArray, List.length_flatten, List.map_replicate, List.sum_replicate_nat]
        simp
        rw [Nat.mul_comm]
        omega
      · congr 1
        simp [S]
end
end L2
namespace L2
open PySem PySem.Spec PyProof.Rows
inductive D where
  | non | bl (b : Bool) | int (i : Int) | str (l : List Nat) | lst (ds : List D) | tup (ds : List D) | dic (ks vs : List D) | ob (n : Nat)
inductive Ob where
  | ins (c : Str) (fs : List (Str × D))
  | ml (ds : List D)
  | dt (kvs : List (List Key × D))
abbrev Store := List Ob
abbrev DEnv := List (Option D)
structure Xc where
  cls : Str
  fs : List (Str × D)
inductive Res (α : Type) where
  | ok (a : α) (O : Store) | ex (x : Xc) (O : Store) | no
inductive Fl where
  | nx (ρ : DEnv) (O : Store) | rt (d : D) (O : Store) | bk (ρ : DEnv) (O : Store) | ct (ρ : DEnv) (O : Store) | ex (x : Xc) (O : Store) | no
abbrev M (α : Type) := DEnv → Store → Res α
abbrev MS := DEnv → Store → Fl
def Res.bind {α β : Type} (r : Res α) (f : α → Store → Res β) : Res β := match r with
  | .ok a O => f a O
  | .ex x O => .ex x O
  | .no => .no
theorem Res.bind_ok {α β : Type} {r : Res α} {f : α → Store → Res β} {b : β} {O' : Store} (h : r.bind f = .ok b O') : ∃ a O, r = .ok a O ∧ f a O = .ok b O' := by
  cases r with
  | ok a O => exact ⟨a, O, rfl, h⟩
  | ex x O => cases h
  | no => cases h
def noStar : Expr → Bool
  | .Starred _ _ => false
  | _ => true
theorem starC {e : Expr} {es : List Expr} {env : Env} (h : noStar e = true) : starEach (e :: es) env = (false, eval e env) :: starEach es env := by
  cases e <;> first | rfl | cases h
theorem starAny {pos : Pos} {env : Env} : ∀ {es : List Expr}, es.all noStar = true → (backTo pos (starEach es env)).any (·.1) = false
  | [], _ => by simp [starEach, backTo]
  | e :: es, h => by
    rw [List.all_cons, Bool.and_eq_true] at h
    rw [starC h.1]
    show (false || (backTo pos (starEach es env)).any (·.1)) = false
    rw [starAny h.2]
    rfl
theorem star1 {e : Expr} {env : Env} (h : noStar e = true) : starEach [e] env = [(false, eval e env)] := by rw [starC h]; simp [starEach]
abbrev Frag := PySem.W.Frag
def keyD : Key → D
  | .inl i => .int i
  | .inr x => .str x.cps.toList
def RdK (K : Frag) (H : Hp) (a : Addr) (xs : List V) : Prop := Rd H a (.lst xs) ∨ ∃ (its : List Value) (n : Nat), K.lookup a = some { cls := .type "list", data := .seq its.toArray n } ∧ its.length ≤ sizeLine ∧ Vals xs its
theorem RdK.sq {K : Frag} {H : Hp} {a : Addr} {xs : List V} (h : RdK K H a xs) : SqL K H a xs := by
  rcases h with h | ⟨its, n, h1, h2, h3⟩
  · exact .inl h
  · exact .inr ⟨_, its.toArray, n, h1, rfl, rfl, rfl, by simpa using h2, by simpa using h3⟩
theorem RdK.ok {X : Cx} {pins : List (Addr × Obj)} {σ : St} {H : Hp} {s : Shared} {a : Addr} {xs : List V} (h : RdK X.K H a xs) (I : Inv X pins σ H s) : xs.length ≤ sizeLine ∧ ∃ (its : List Value) (n : Nat), Vals xs its ∧ s.heap.get? a = some { cls := .type "list", data := .seq its.toArray n } := by
  rcases h with h | ⟨its, n, h1, h2, h3⟩
  · exact h.ok I.hok
  · exact ⟨by rw [h3.length]; exact h2, its, n, h3, I.kIn a _ h1⟩
def TqT (K : Frag) (F : Hp) (a : Addr) (xs : List V) : Prop :=
  F a = some (.tup xs) ∨ ∃ (o : Obj) (its : Array Value) (n : Nat), K.lookup a = some o ∧ o.cls = .type "tuple" ∧ o.data = .seq its n ∧ its.size ≤ sizeLine ∧ Vals xs its.toList
theorem TqT.sq {K : Frag} {F : Hp} {a : Addr} {xs : List V} (h : TqT K F a xs) : SqT K F a xs := h.imp .inl id
mutual
def Rp (K : Frag) (F : Hp) (as : List Addr) : V → D → Prop
  | v, .non => v = .non
  | v, .bl b => v = .bl b
  | v, .int i => v = .int i
  | v, .str l => v = .str (S l)
  | v, .lst ds => ∃ a xs, v = .ref a ∧ RdK K F a xs ∧ Rps K F as xs ds
  | v, .tup ds => ∃ a xs, v = .ref a ∧ TqT K F a xs ∧ Rps K F as xs ds
  | v, .dic ks vs => ∃ (a : Addr) (kvs : List (Key × V)), v = .ref a ∧ F a = some (.dK kvs) ∧ ks = kvs.map (fun p => keyD p.1) ∧ Rps K F as (kvs.map (·.2)) vs
  | v, .ob n => ∃ a, v = .ref a ∧ as[n]? = some a
def Rps (K : Frag) (F : Hp) (as : List Addr) : List V → List D → Prop
  | xs, [] => xs = []
  | xs, d :: ds => ∃ x r, xs = x :: r ∧ Rp K F as x d ∧ Rps K F as r ds
end
section
variable {K : Frag} {F F' : Hp} {as as' : List Addr}
theorem Rd.mono {H H' : Hp} {a : Addr} {u : HO} (e : Same H H') (h : Rd H a u) : Rd H' a u := by
  rcases h with h | ⟨o, h⟩
  · exact .inl (e _ _ h)
  · exact .inr ⟨o, e _ _ h⟩
theorem RdK.mono {H H' : Hp} {a : Addr} {xs : List V} (e : Same H H') (h : RdK K H a xs) : RdK K H' a xs := h.imp (fun z => z.mono e) id
mutual
theorem Rp.mono (e : Same F F') (ea : ∀ (n : Nat) (a : Addr), as[n]? = some a → as'[n]? = some a) : ∀ (d : D) {v : V}, Rp K F as v d → Rp K F' as' v d
  | .non, v, h => by rw [Rp] at h ⊢; exact h
  | .bl b, v, h => by rw [Rp] at h ⊢; exact h
  | .int i, v, h => by rw [Rp] at h ⊢; exact h
  | .str x, v, h => by rw [Rp] at h ⊢; exact h
  | .lst ds, v, h => by
    rw [Rp] at h ⊢
    obtain ⟨a, xs, h1, h2, h3⟩ := h
    exact ⟨a, xs, h1, h2.mono e, Rps.mono e ea ds h3⟩
  | .tup ds, v, h => by
    rw [Rp] at h ⊢
    obtain ⟨a, xs, h1, h2, h3⟩ := h
    exact ⟨a, xs, h1, h2.imp (e _ _) id, Rps.mono e ea ds h3⟩
  | .dic ks vs, v, h => by
    rw [Rp] at h ⊢
    obtain ⟨a, kvs, h1, h2, h3, h4⟩ := h
    exact ⟨a, kvs, h1, e _ _ h2, h3, Rps.mono e ea vs h4⟩
  | .ob n, v, h => by
    rw [Rp] at h ⊢
    obtain ⟨a, h1, h2⟩ := h
    exact ⟨a, h1, ea _ _ h2⟩
theorem Rps.mono (e : Same F F') (ea : ∀ (n : Nat) (a : Addr), as[n]? = some a → as'[n]? = some a) : ∀ (ds : List D) {xs : List V}, Rps K F as xs ds → Rps K F' as' xs ds
  | [], xs, h => by rw [Rps] at h ⊢; exact h
  | d :: ds, xs, h => by
    rw [Rps] at h ⊢
    obtain ⟨x, r, h1, h2, h3⟩ := h
    exact ⟨x, r, h1, Rp.mono e ea d h2, Rps.mono e ea ds h3⟩
end
theorem Rp.non : Rp K F as .non .non := by rw [Rp]
theorem Rp.bl {b : Bool} : Rp K F as (.bl b) (.bl b) := by rw [Rp]
theorem Rp.int {i : Int} : Rp K F as (.int i) (.int i) := by rw [Rp]
theorem Rp.str {l : List Nat} : Rp K F as (.str (S l)) (.str l) := by rw [Rp]
theorem Rp.unN {v : V} (h : Rp K F as v .non) : v = .non := by rw [Rp] at h; exact h
theorem Rp.unB {v : V} {b : Bool} (h : Rp K F as v (.bl b)) : v = .bl b := by rw [Rp] at h; exact h
theorem Rp.unI {v : V} {i : Int} (h : Rp K F as v (.int i)) : v = .int i := by rw [Rp] at h; exact h
theorem Rp.unS {v : V} {l : List Nat} (h : Rp K F as v (.str l)) : v = .str (S l) := by rw [Rp] at h; exact h
theorem Rp.unL {v : V} {ds : List D} (h : Rp K F as v (.lst ds)) : ∃ a xs, v = .ref a ∧ RdK K F a xs ∧ Rps K F as xs ds := by rw [Rp] at h; exact h
theorem Rp.unT' {v : V} {ds : List D} (h : Rp K F as v (.tup ds)) : ∃ a xs, v = .ref a ∧ TqT K F a xs ∧ Rps K F as xs ds := by rw [Rp] at h; exact h
theorem Rp.unT {v : V} {ds : List D} (h : Rp K F as v (.tup ds)) : ∃ a xs, v = .ref a ∧ SqT K F a xs ∧ Rps K F as xs ds := let ⟨a, xs, e, h1, h2⟩ := h.unT'; ⟨a, xs, e, h1.sq, h2⟩
theorem Rp.unO {v : V} {n : Nat} (h : Rp K F as v (.ob n)) : ∃ a, v = .ref a ∧ as[n]? = some a := by rw [Rp] at h; exact h
theorem Rp.unD {v : V} {ks vs : List D} (h : Rp K F as v (.dic ks vs)) : ∃ (a : Addr) (kvs : List (Key × V)), v = .ref a ∧ F a = some (.dK kvs) ∧ ks = kvs.map (fun p => keyD p.1) ∧ Rps K F as (kvs.map (·.2)) vs := by rw [Rp] at h; exact h
theorem Rp.mkL {a : Addr} {xs : List V} {ds : List D} (h : RdK K F a xs) (hs : Rps K F as xs ds) : Rp K F as (.ref a) (.lst ds) := by rw [Rp]; exact ⟨a, xs, rfl, h, hs⟩
theorem Rp.mkT {a : Addr} {xs : List V} {ds : List D} (h : TqT K F a xs) (hs : Rps K F as xs ds) : Rp K F as (.ref a) (.tup ds) := by rw [Rp]; exact ⟨a, xs, rfl, h, hs⟩
theorem Rp.mkO {a : Addr} {n : Nat} (h : as[n]? = some a) : Rp K F as (.ref a) (.ob n) := by rw [Rp]; exact ⟨a, rfl, h⟩
theorem Rps.nil : Rps K F as [] [] := by rw [Rps]
theorem Rps.cons {x : V} {xs : List V} {d : D} {ds : List D} (h : Rp K F as x d) (hs : Rps K F as xs ds) : Rps K F as (x :: xs) (d :: ds) := by
  rw [Rps]; exact ⟨x, xs, rfl, h, hs⟩
theorem Rps.un {xs : List V} {d : D} {ds : List D} (h : Rps K F as xs (d :: ds)) : ∃ x r, xs = x :: r ∧ Rp K F as x d ∧ Rps K F as r ds := by rw [Rps] at h; exact h
theorem Rps.un0 {xs : List V} (h : Rps K F as xs []) : xs = [] := by rw [Rps] at h; exact h
theorem Rps.length : ∀ {ds : List D} {xs : List V}, Rps K F as xs ds → xs.length = ds.length
  | [], xs, h => by rw [h.un0]; rfl
  | d :: ds, xs, h => by
    obtain ⟨x, r, rfl, _, h3⟩ := h.un
    simp [Rps.length h3]
theorem Rps.get : ∀ {ds : List D} {xs : List V} {i : Nat} {x : V}, Rps K F as xs ds → xs[i]? = some x → ∃ d, ds[i]? = some d ∧ Rp K F as x d
  | [], xs, i, x, h, e => by rw [h.un0] at e; simp at e
  | d :: ds, xs, i, x, h, e => by
    obtain ⟨y, r, rfl, h2, h3⟩ := h.un
    cases i with
    | zero => simp at e; subst e; exact ⟨d, rfl, h2⟩
    | succ i =>
      obtain ⟨d', e', q⟩ := Rps.get (i := i) (x := x) h3 (by simpa using e)
      exact ⟨d', by simpa using e', q⟩
theorem Rps.get' : ∀ {ds : List D} {xs : List V} {i : Nat} {d : D}, Rps K F as xs ds → ds[i]? = some d → ∃ x, xs[i]? = some x ∧ Rp K F as x d := by
  intro ds xs i d h e
  have hl := h.length
  have hi : i < xs.length := by rw [hl]; exact (List.getElem?_eq_some_iff.mp e).1
  obtain ⟨d', e', q⟩ := h.get (List.getElem?_eq_getElem hi)
  rw [e] at e'; cases e'
  exact ⟨_, List.getElem?_eq_getElem hi, q⟩
theorem Rps.append {ys : List V} {es : List D} (hy : Rps K F as ys es) : ∀ {ds : List D} {xs : List V}, Rps K F as xs ds → Rps K F as (xs ++ ys) (ds ++ es)
  | [], xs, h => by rw [h.un0]; exact hy
  | e :: ds, xs, h => by
    obtain ⟨y, r, rfl, h2, h3⟩ := h.un
    exact Rps.cons h2 (Rps.append hy h3)
theorem Rps.snoc {x : V} {d : D} {ds : List D} {xs : List V} (h : Rps K F as xs ds) (hx : Rp K F as x d) : Rps K F as (xs ++ [x]) (ds ++ [d]) := Rps.append (Rps.cons hx Rps.nil) h
theorem Rps.take : ∀ {ds : List D} {xs : List V} (n : Nat), Rps K F as xs ds → Rps K F as (xs.take n) (ds.take n)
  | _, _, 0, _ => by simpa using Rps.nil
  | [], xs, n + 1, h => by rw [h.un0]; simpa using Rps.nil
  | d :: ds, xs, n + 1, h => by
    obtain ⟨y, r, rfl, h2, h3⟩ := h.un
    exact Rps.cons h2 (Rps.take n h3)
theorem Rps.drop : ∀ {ds : List D} {xs : List V} (n : Nat), Rps K F as xs ds → Rps K F as (xs.drop n) (ds.drop n)
  | _, _, 0, h => by simpa using h
  | [], xs, n + 1, h => by rw [h.un0]; simpa using Rps.nil
  | d :: ds, xs, n + 1, h => by
    obtain ⟨y, r, rfl, h2, h3⟩ := h.un
    exact Rps.drop n h3
theorem Rps.rep {ds : List D} {xs : List V} (h : Rps K F as xs ds) : ∀ n : Nat, Rps K F as (List.replicate n xs).flatten (List.replicate n ds).flatten
  | 0 => by simpa using Rps.nil
  | n + 1 => by
    rw [List.replicate_succ, List.replicate_succ, List.flatten_cons, List.flatten_cons]
    exact Rps.append (Rps.rep h n) h
end
def isD : HO → Bool
  | .ins _ _ _ => false
  | .own _ => false
  | .xd _ => false
  | _ => true
structure Gr (H F : Hp) (as : List Addr) (H' F' : Hp) (as' : List Addr) : Prop where
  fz : ∀ a, H a ≠ none → F' a = F a
  ff : Same F F'
  nw : ∃ new, as' = as ++ new ∧ ∀ a ∈ new, H a = none
  fr : ∀ a o, H a = some o → a ∉ as → isD o = true → H' a = some o
  dm : ∀ a, H' a = none → H a = none
structure Pt where
  p : Addr → Prop
  ss : List (Nat × V × D)
instance : CoeFun Pt (fun _ => Addr → Prop) := ⟨Pt.p⟩
def Pt.all (H : Hp) : Pt := ⟨fun a => H a ≠ none, []⟩
structure GrS (P : Pt) (H F : Hp) (as : List Addr) (H' F' : Hp) (as' : List Addr) : Prop where
  fz : ∀ a, P a → H a ≠ none → F' a = F a
  ff : Same F F'
  nw : ∃ new, as' = as ++ new ∧ ∀ a ∈ new, H a = none
  fr : ∀ a o, P a → H a = some o → a ∉ as → isD o = true → H' a = some o
  dm : ∀ a, H' a = none → H a = none
section
variable {H F H' F' H2 F2 : Hp} {as as' as2 : List Addr} {P : Pt}
theorem Gr.refl : Gr H F as H F as := ⟨fun _ _ => rfl, Same.refl F, ⟨[], by simp, fun _ h => nomatch h⟩, fun _ _ h _ _ => h, fun _ h => h⟩
theorem Gr.trans (a : Gr H F as H' F' as') (b : Gr H' F' as' H2 F2 as2) : Gr H F as H2 F2 as2 := by
  obtain ⟨n1, e1, h1⟩ := a.nw
  obtain ⟨n2, e2, h2⟩ := b.nw
  refine ⟨fun c hc => ?_, a.ff.trans b.ff, ⟨n1 ++ n2, by rw [e2, e1, List.append_assoc], fun c hc => ?_⟩, fun c o e hn hd => ?_, fun c h => a.dm c (b.dm c h)⟩
  · rw [b.fz c (fun z => hc (a.dm c z)), a.fz c hc]
  · rcases List.mem_append.mp hc with z | z
    · exact h1 c z
    · exact a.dm c (h2 c z)
  · have q := a.fr c o e hn hd
    refine b.fr c o q ?_ hd
    rw [e1]
    intro z
    rcases List.mem_append.mp z with z | z
    · exact hn z
    · rw [h1 c z] at e; cases e
theorem Gr.toS (a : Gr H F as H' F' as') : GrS P H F as H' F' as' := ⟨fun c _ => a.fz c, a.ff, a.nw, fun c o _ e hn hd => a.fr c o e hn hd, a.dm⟩
theorem GrS.refl : GrS P H F as H F as := Gr.refl.toS
theorem GrS.trans (a : GrS P H F as H' F' as') (b : GrS P H' F' as' H2 F2 as2) : GrS P H F as H2 F2 as2 := by
  obtain ⟨n1, e1, h1⟩ := a.nw
  obtain ⟨n2, e2, h2⟩ := b.nw
  refine ⟨fun c hp hc => ?_, a.ff.trans b.ff, ⟨n1 ++ n2, by rw [e2, e1, List.append_assoc], fun c hc => ?_⟩, fun c o p e hn hd => ?_, fun c h => a.dm c (b.dm c h)⟩
  · rw [b.fz c hp (fun z => hc (a.dm c z)), a.fz c hp hc]
  · rcases List.mem_append.mp hc with z | z
    · exact h1 c z
    · exact a.dm c (h2 c z)
  · have q := a.fr c o p e hn hd
    refine b.fr c o p q ?_ hd
    rw [e1]
    intro z
    rcases List.mem_append.mp z with z | z
    · exact hn z
    · rw [h1 c z] at e; cases e
theorem GrS.mono {P' : Pt} (a : GrS P H F as H' F' as') (h : ∀ c, P' c → P c) : GrS P' H F as H' F' as' := ⟨fun c p => a.fz c (h c p), a.ff, a.nw, fun c o p => a.fr c o (h c p), a.dm⟩
theorem GrS.gr (a : GrS (Pt.all H) H F as H' F' as') : Gr H F as H' F' as' := ⟨fun c hc => a.fz c hc hc, a.ff, a.nw, fun c o e => a.fr c o (show H c ≠ none by rw [e]; exact fun z => nomatch z) e, a.dm⟩
theorem Gr.at_ (a : Gr H F as H' F' as') : ∀ (n : Nat) (c : Addr), as[n]? = some c → as'[n]? = some c := fun n c h => by
  obtain ⟨new, e, _⟩ := a.nw
  rw [e, List.getElem?_append_left (List.getElem?_eq_some_iff.mp h).1]
  exact h
theorem GrS.at_ (a : GrS P H F as H' F' as') : ∀ (n : Nat) (c : Addr), as[n]? = some c → as'[n]? = some c := fun n c h => by
  obtain ⟨new, e, _⟩ := a.nw
  rw [e, List.getElem?_append_left (List.getElem?_eq_some_iff.mp h).1]
  exact h
theorem Gr.out (a : Gr H F as H' F' as') {c : Addr} (h : c ∉ as) (e : H c ≠ none) : c ∉ as' := by
  obtain ⟨new, e1, h1⟩ := a.nw
  rw [e1]
  intro z
  rcases List.mem_append.mp z with z | z
  · exact h z
  · exact e (h1 c z)
theorem GrS.out (a : GrS P H F as H' F' as') {c : Addr} (h : c ∉ as) (e : H c ≠ none) : c ∉ as' := by
  obtain ⟨new, e1, h1⟩ := a.nw
  rw [e1]
  intro z
  rcases List.mem_append.mp z with z | z
  · exact h z
  · exact e (h1 c z)
theorem Rp.gr {K : Frag} {v : V} {d : D} (h : Rp K F as v d) (a : Gr H F as H' F' as') : Rp K F' as' v d := Rp.mono a.ff a.at_ d h
theorem Rps.gr {K : Frag} {v : List V} {d : List D} (h : Rps K F as v d) (a : Gr H F as H' F' as') : Rps K F' as' v d := Rps.mono a.ff a.at_ d h
theorem Rp.grS {K : Frag} {v : V} {d : D} (h : Rp K F as v d) (a : GrS P H F as H' F' as') : Rp K F' as' v d := Rp.mono a.ff a.at_ d h
theorem Rps.grS {K : Frag} {v : List V} {d : List D} (h : Rps K F as v d) (a : GrS P H F as H' F' as') : Rps K F' as' v d := Rps.mono a.ff a.at_ d h
end
structure FsR (K : Frag) (F : Hp) (as : List Addr) (gs : List (Str × V)) (fs : List (Str × D)) : Prop where
  nm : gs.map (·.1) = fs.map (·.1)
  vl : Rps K F as (gs.map (·.2)) (fs.map (·.2))
def ObR (K : Frag) (mg : Str → Option Value) (H F : Hp) (as : List Addr) (a : Addr) : Ob → Prop
  | .ins c fs => ∃ C dx gs, mg c = some (.ref C) ∧ H a = some (.ins C dx gs) ∧ FsR K F as gs fs
  | .ml ds => ∃ xs, H a = some (.lst xs) ∧ Rps K F as xs ds
  | .dt kvs => ∃ xs : List (List Key × V), H a = some (.dT xs) ∧ xs.map (·.1) = kvs.map (·.1) ∧ Rps K F as (xs.map (·.2)) (kvs.map (·.2))
structure RlO (K : Frag) (mg : Str → Option Value) (O : Store) (H F : Hp) (as : List Addr) : Prop where
  fh : Same F H
  fd : ∀ a o, F a = some o → isD o = true
  nd : as.Nodup
  len : as.length = O.length
  fa : ∀ a ∈ as, F a = none
  ob : ∀ (n : Nat) (a : Addr) (o : Ob), as[n]? = some a → O[n]? = some o → ObR K mg H F as a o
inductive Md where
  | v | s | o
  deriving DecidableEq
def notL : D → Bool
  | .lst _ => false
  | _ => true
def SlotR (P : Pt) (K : Frag) (H F : Hp) (as : List Addr) : Md → V → D → Prop
  | .v, v, d => Rp K F as v d
  | .s, v, d => Rp K F as v d ∨ ∃ a xs ds, v = .ref a ∧ d = .lst ds ∧ H a = some (.lst xs) ∧ a ∉ as ∧ P a ∧ Rps K F as xs ds
  | .o, v, d => (notL d = true ∧ Rp K F as v d) ∨ ∃ a xs ds, v = .ref a ∧ d = .lst ds ∧ H a = some (.lst xs) ∧ F a = none ∧ a ∉ as ∧ ¬ P a ∧ Rps K F as xs ds
structure SlO (K : Frag) (md : List Md) (P : Pt) (ρ : DEnv) (σ : St) (H F : Hp) (as : List Addr) : Prop where
  len : σ.length = md.length
  len' : ρ.length = md.length
  pd : ∀ a, P a → H a ≠ none
  sl : ∀ (i : Nat) (m : Md) (d : D), md[i]? = some m → ρ[i]? = some (some d) → ∃ v, σ[i]? = some (some v) ∧ SlotR P K H F as m v d
  inj : ∀ (i j : Nat) (a : Addr) (ds es : List D), md[i]? = some .o → md[j]? = some .o → ρ[i]? = some (some (.lst ds)) → ρ[j]? = some (some (.lst es)) → σ[i]? = some (some (.ref a)) → σ[j]? = some (some (.ref a)) → i = j
  pin : ∀ x ∈ P.ss, md[x.1]? = some .s ∧ ρ[x.1]? = some (some x.2.2) ∧ σ[x.1]? = some (some x.2.1)
section
variable {K : Frag} {mg : Str → Option Value} {md : List Md} {P : Pt} {ρ : DEnv} {σ : St} {H F H' F' : Hp} {as as' : List Addr} {O O' : Store}
theorem SlotR.step {m : Md} {v : V} {d : D} (h : SlotR P K H F as m v d) (g : Gr H F as H' F' as') : SlotR P K H' F' as' m v d := by
  cases m with
  | v => exact Rp.gr (show Rp K F as v d from h) g
  | s =>
    rcases h with h | ⟨a, xs, ds, e1, e2, e3, e4, e5, e6⟩
    · exact .inl (h.gr g)
    · exact .inr ⟨a, xs, ds, e1, e2, g.fr _ _ e3 e4 rfl, g.out e4 (by rw [e3]; exact fun z => nomatch z), e5, e6.gr g⟩
  | o =>
    rcases h with ⟨h1, h⟩ | ⟨a, xs, ds, e1, e2, e3, e0, e4, e5, e6⟩
    · exact .inl ⟨h1, h.gr g⟩
    · have hn : H a ≠ none := by rw [e3]; exact fun z => nomatch z
      exact .inr ⟨a, xs, ds, e1, e2, g.fr _ _ e3 e4 rfl, by rw [g.fz a hn]; exact e0, g.out e4 hn, e5, e6.gr g⟩
theorem SlO.step (h : SlO K md P ρ σ H F as) (g : Gr H F as H' F' as') : SlO K md P ρ σ H' F' as' :=
  ⟨h.len, h.len', fun a p z => h.pd a p (g.dm a z), fun i m d e1 e2 => let ⟨v, q, r⟩ := h.sl i m d e1 e2; ⟨v, q, r.step g⟩, h.inj, h.pin⟩
end
def Sv (K : Frag) (H F : Hp) (as : List Addr) (v : V) (d : D) : Prop :=
  Rp K F as v d ∨ ∃ a xs ds, v = .ref a ∧ d = .lst ds ∧ H a = some (.lst xs) ∧ a ∉ as ∧ Rps K F as xs ds
def Lk (K : Frag) (H F : Hp) (as : List Addr) (v : V) (d : D) : Prop :=
  Rp K F as v d ∨ ∃ a xs ds, v = .ref a ∧ d = .lst ds ∧ H a = some (.lst xs) ∧ Rps K F as xs ds
def Ow (K : Frag) (N : Addr → Prop) (H F : Hp) (as : List Addr) (v : V) (d : D) : Prop :=
  (notL d = true ∧ Rp K F as v d) ∨ ∃ a xs ds, v = .ref a ∧ d = .lst ds ∧ H a = some (.lst xs) ∧ F a = none ∧ a ∉ as ∧ N a ∧ Rps K F as xs ds
def deref (O : Store) (d : D) : D := match d with
  | .ob n => match O[n]? with
    | some (.ml ds) => .lst ds
    | _ => .ob n
  | d => d
section
variable {K : Frag} {mg : Str → Option Value} {H0 H F H' F' : Hp} {as as' : List Addr} {O : Store} {v : V} {d : D}
theorem Sv.gr (h : Sv K H F as v d) (g : Gr H F as H' F' as') : Sv K H' F' as' v d := by
  rcases h with h | ⟨a, xs, ds, e1, e2, e3, e4, e5⟩
  · exact .inl (h.gr g)
  · exact .inr ⟨a, xs, ds, e1, e2, g.fr _ _ e3 e4 rfl, g.out e4 (by rw [e3]; exact fun z => nomatch z), e5.gr g⟩
theorem Sv.lk (h : Sv K H F as v d) (r : RlO K mg O H F as) : Lk K H F as v (deref O d) := by
  rcases h with h | ⟨a, xs, ds, rfl, rfl, e3, e4, e5⟩
  · cases d with
    | ob n =>
      obtain ⟨a, rfl, ha⟩ := h.unO
      unfold deref
      dsimp only
      split
      · rename_i ds e
        obtain ⟨xs, e1, e2⟩ := r.ob n a _ ha e
        exact .inr ⟨a, xs, ds, rfl, rfl, e1, e2⟩
      · exact .inl (Rp.mkO ha)
    | _ => exact .inl h
  · exact .inr ⟨a, xs, ds, rfl, rfl, e3, e5⟩
theorem Lk.list {ds : List D} (h : Lk K H F as v (.lst ds)) (fh : Same F H) : ∃ a xs, v = .ref a ∧ RdK K H a xs ∧ Rps K F as xs ds := by
  rcases h with h | ⟨a, xs, ds', e1, e2, e3, e4⟩
  · obtain ⟨a, xs, e, h1, h2⟩ := h.unL
    exact ⟨a, xs, e, h1.mono fh, h2⟩
  · cases e2
    exact ⟨a, xs, e1, .inl (.inl e3), e4⟩
theorem Lk.rp (h : Lk K H F as v d) (hn : notL d = true) : Rp K F as v d := by
  rcases h with h | ⟨a, xs, ds', e1, rfl, e3, e4⟩
  · exact h
  · cases hn
theorem Sv.rp (h : Sv K H F as v d) (hn : notL d = true) : Rp K F as v d := by
  rcases h with h | ⟨a, xs, ds', e1, rfl, e3, e4⟩
  · exact h
  · cases hn
theorem Ow.sv {N : Addr → Prop} (h : Ow K N H F as v d) : Sv K H F as v d := by
  rcases h with ⟨_, h⟩ | ⟨a, xs, ds, e1, e2, e3, e4, e5, e6, e7⟩
  · exact .inl h
  · exact .inr ⟨a, xs, ds, e1, e2, e3, e5, e7⟩
theorem Gr.lay {p : Addr} {o : HO} (hp : H p = none) : Gr H F as (upd H p o) F as :=
  ⟨fun _ _ => rfl, Same.refl F, ⟨[], by simp, fun _ h => nomatch h⟩, fun a o' e _ _ => by rw [upd_ne (ne_of_none e hp)]; exact e, fun a e => by
    by_cases h : a = p
    · subst h; exact hp
    · rwa [upd_ne h] at e⟩
theorem ObR.keep {a : Addr} {o : Ob} (h : ObR K mg H F as a o) (hH : H' a = H a) (e : Same F F') (ea : ∀ (n : Nat) (a : Addr), as[n]? = some a → as'[n]? = some a) : ObR K mg H' F' as' a o := by
  cases o with
  | ins c fs =>
    obtain ⟨C, dx, gs, h1, h2, h3, h4⟩ := h
    exact ⟨C, dx, gs, h1, by rw [hH]; exact h2, h3, Rps.mono e ea _ h4⟩
  | ml ds =>
    obtain ⟨xs, h1, h2⟩ := h
    exact ⟨xs, by rw [hH]; exact h1, Rps.mono e ea _ h2⟩
  | dt kvs =>
    obtain ⟨xs, h1, h2, h3⟩ := h
    exact ⟨xs, by rw [hH]; exact h1, h2, Rps.mono e ea _ h3⟩
theorem RlO.at {n : Nat} {a : Addr} {o : Ob} (r : RlO K mg O H F as) (ha : as[n]? = some a) (ho : O[n]? = some o) : H a ≠ none := by
  have q := r.ob n a o ha ho
  cases o with
  | ins c fs => obtain ⟨C, dx, gs, h1, h2, _⟩ := q; rw [h2]; exact fun z => nomatch z
  | ml ds => obtain ⟨xs, h1, _⟩ := q; rw [h1]; exact fun z => nomatch z
  | dt kvs => obtain ⟨xs, h1, _⟩ := q; rw [h1]; exact fun z => nomatch z
theorem RlO.all {a : Addr} (r : RlO K mg O H F as) (ha : a ∈ as) : H a ≠ none := by
  obtain ⟨n, hn, e⟩ := List.mem_iff_getElem.mp ha
  have hO : n < O.length := by rw [← r.len]; exact hn
  exact r.at (n := n) (by rw [List.getElem?_eq_getElem hn, e]) (List.getElem?_eq_getElem hO)
theorem RlO.lay {p : Addr} {o : HO} (r : RlO K mg O H F as) (hp : H p = none) : RlO K mg O (upd H p o) F as := by
  refine ⟨fun a u e => ?_, r.fd, r.nd, r.len, r.fa, fun n a u ha hu => (r.ob n a u ha hu).keep (upd_ne ?_) (Same.refl F) fun _ _ h => h⟩
  · have q := r.fh a u e
    rw [upd_ne (ne_of_none q hp)]; exact q
  · intro z; subst z; exact r.at ha hu hp
theorem Gr.frz {p : Addr} {o : HO} (hp : H p = none) (g : Gr H F as H' F' as') (hf : F' p = none) : Gr H F as H' (upd F' p o) as' :=
  ⟨fun a ha => by rw [upd_ne (fun z => by subst z; exact ha hp)]; exact g.fz a ha, fun a u e => by
    have q := g.ff a u e
    rw [upd_ne (ne_of_none q hf)]; exact q, g.nw, g.fr, g.dm⟩
theorem RlO.frz {p : Addr} {o : HO} (r : RlO K mg O H F as) (hp : H p = some o) (hf : F p = none) (ha : p ∉ as) (hd : isD o = true) : RlO K mg O H (upd F p o) as := by
  have ff : Same F (upd F p o) := fun a u e => by rw [upd_ne (ne_of_none e hf)]; exact e
  refine ⟨fun a u e => ?_, fun a u e => ?_, r.nd, r.len, fun a h => ?_, fun n a u h1 h2 => (r.ob n a u h1 h2).keep rfl ff fun _ _ h => h⟩
  · by_cases h : a = p
    · subst h; rw [upd_same] at e; cases e; exact hp
    · rw [upd_ne h] at e; exact r.fh a u e
  · by_cases h : a = p
    · subst h; rw [upd_same] at e; cases e; exact hd
    · rw [upd_ne h] at e; exact r.fd a u e
  · rw [upd_ne (fun z => by subst z; exact ha h)]; exact r.fa a h
end
end L2
namespace L2
open PySem PySem.Spec PyProof.Rows
abbrev RR := (Addr → Prop) → Hp → Hp → List Addr → V → D → Prop
def rV (K : Frag) : RR := fun _ _ F as v d => Rp K F as v d
def rS (K : Frag) : RR := fun _ H F as v d => Sv K H F as v d
def rO (K : Frag) : RR := fun N H F as v d => Ow K N H F as v d
def rA (K : Frag) : Md → RR
  | .v => rV K
  | _ => rS K
def RRok (R : RR) : Prop := ∀ (N N' : Addr → Prop) (H F : Hp) (as : List Addr) (v : V) (d : D), (∀ a, N a → N' a) → R N H F as v d → R N' H F as v d
theorem rV_ok {K : Frag} : RRok (rV K) := fun _ _ _ _ _ _ _ _ h => h
theorem rO_ok {K : Frag} : RRok (rO K) := fun N N' H F as v d hn h => by
  rcases h with h | ⟨a, xs, ds, e1, e2, e3, e4, e5, e6, e7⟩
  · exact .inl h
  · exact .inr ⟨a, xs, ds, e1, e2, e3, e4, e5, hn a e6, e7⟩
def tM (K : Frag) (mg : Str → Option Value) (md : List Md) (P : Pt) (R : RR) (m : M D) : TE := fun σ H Q =>
  ∃ ρ O F as d O', RlO K mg O H F as ∧ SlO K md P ρ σ H F as ∧ m ρ O = .ok d O' ∧
    ∀ v H' F' as', Gr H F as H' F' as' → RlO K mg O' H' F' as' → R (fun a => H a = none) H' F' as' v d → Q v H'
def tMT (K : Frag) (mg : Str → Option Value) (md : List Md) (P : Pt) (m : M Bool) : TT := fun σ H Q =>
  ∃ ρ O F as b O', RlO K mg O H F as ∧ SlO K md P ρ σ H F as ∧ m ρ O = .ok b O' ∧
    ∀ H' F' as', Gr H F as H' F' as' → RlO K mg O' H' F' as' → Q b H'
def ArgsR (K : Frag) (H F : Hp) (as : List Addr) : List Md → List V → List D → Prop
  | [], [], [] => True
  | m :: ms, v :: vs, d :: ds => rA K m (fun _ => True) H F as v d ∧ ArgsR K H F as ms vs ds
  | _, _, _ => False
def tMA (K : Frag) (mg : Str → Option Value) (md : List Md) (P : Pt) (ms : List Md) (m : M (List D)) : TA := fun σ H Q =>
  ∃ ρ O F as ds O', RlO K mg O H F as ∧ SlO K md P ρ σ H F as ∧ m ρ O = .ok ds O' ∧
    ∀ vs H' F' as', Gr H F as H' F' as' → RlO K mg O' H' F' as' → ArgsR K H' F' as' ms vs ds → Q vs H'
def XE (X : Cx) (md : List Md) (P : Pt) (R : RR) (e : Expr) (m : M D) : Prop := PE X e (tM X.K X.mg md P R m)
def VE (X : Cx) (md : List Md) (P : Pt) (e : Expr) (m : M D) : Prop := PE X e (tM X.K X.mg md P (rV X.K) m)
def SE (X : Cx) (md : List Md) (P : Pt) (e : Expr) (m : M D) : Prop := PE X e (tM X.K X.mg md P (rS X.K) m)
def OE (X : Cx) (md : List Md) (P : Pt) (e : Expr) (m : M D) : Prop := PE X e (tM X.K X.mg md P (rO X.K) m)
def TsE (X : Cx) (md : List Md) (P : Pt) (e : Expr) (m : M Bool) : Prop := PT X e (tMT X.K X.mg md P m)
def TwE (X : Cx) (md : List Md) (P : Pt) (e : Expr) (m : M Bool) : Prop := PW X e (tMT X.K X.mg md P m)
def AE (X : Cx) (md : List Md) (P : Pt) (ms : List Md) (es : List Expr) (m : M (List D)) : Prop := PA X es (tMA X.K X.mg md P ms m)
def FlOk (K : Frag) (mg : Str → Option Value) (md : List Md) (P : Pt) (R : RR) (D : Ends) (H F : Hp) (as : List Addr) : Fl → Prop
  | .nx ρ' O' => ∀ σ' H' F' as', GrS P H F as H' F' as' → RlO K mg O' H' F' as' → SlO K md P ρ' σ' H' F' as' → D.nx σ' H'
  | .bk ρ' O' => ∀ σ' H' F' as', GrS P H F as H' F' as' → RlO K mg O' H' F' as' → SlO K md P ρ' σ' H' F' as' → D.bk σ' H'
  | .ct ρ' O' => ∀ σ' H' F' as', GrS P H F as H' F' as' → RlO K mg O' H' F' as' → SlO K md P ρ' σ' H' F' as' → D.ct σ' H'
  | .rt d O' => ∀ v H' F' as', GrS P H F as H' F' as' → RlO K mg O' H' F' as' → R (fun a => ¬ P a) H' F' as' v d → D.rt v H'
  | .ex _ _ => False
  | .no => False
def tMS (K : Frag) (mg : Str → Option Value) (md : List Md) (P : Pt) (R : RR) (m : MS) : TS := fun D σ H =>
  ∃ ρ O F as, RlO K mg O H F as ∧ SlO K md P ρ σ H F as ∧ FlOk K mg md P R D H F as (m ρ O)
def VS (X : Cx) (md : List Md) (P : Pt) (R : RR) (st : Stmt) (m : MS) : Prop := PS X st (tMS X.K X.mg md P R m)
def VSs (X : Cx) (md : List Md) (P : Pt) (R : RR) (st : List Stmt) (m : MS) : Prop := PSs X st (tMS X.K X.mg md P R m)
section
variable {X : Cx} {md : List Md} {P : Pt} {R : RR}
theorem PE.imp {e : Expr} {t t' : TE} (h : PE X e t) (k : ∀ σ H Q, t' σ H Q → t σ H Q) : PE X e t' := fun pins s σ H Q I q => h pins s σ H Q I (k σ H Q q)
theorem PT.imp {e : Expr} {t t' : TT} (h : PT X e t) (k : ∀ σ H Q, t' σ H Q → t σ H Q) : PT X e t' := fun pins s σ H Q I q => h pins s σ H Q I (k σ H Q q)
theorem PW.imp {e : Expr} {t t' : TT} (h : PW X e t) (k : ∀ σ H Q, t' σ H Q → t σ H Q) : PW X e t' := fun w pins s σ H Q I q => h w pins s σ H Q I (k σ H Q q)
theorem PA.imp {e : List Expr} {t t' : TA} (h : PA X e t) (k : ∀ σ H Q, t' σ H Q → t σ H Q) : PA X e t' := fun pos pins s σ H Q I q => h pos pins s σ H Q I (k σ H Q q)
theorem PS.imp {e : Stmt} {t t' : TS} (h : PS X e t) (k : ∀ D σ H, t' D σ H → t D σ H) : PS X e t' := fun pins s σ H D I q => h pins s σ H D I (k D σ H q)
theorem PSs.imp {e : List Stmt} {t t' : TS} (h : PSs X e t) (k : ∀ D σ H, t' D σ H → t D σ H) : PSs X e t' := fun pins s σ H D I q => h pins s σ H D I (k D σ H q)
def mVar (i : Nat) : M D := fun ρ O => match ρ[i]? with
  | some (some d) => .ok d O
  | _ => .no
def mC (d : D) : M D := fun _ O => .ok d O
def mG (m : M D) : M D := fun ρ O => match m ρ O with
  | .ok d O' => if notL d = true then .ok d O' else .no
  | r => r
theorem mVar_ok {i : Nat} {ρ : DEnv} {O O' : Store} {d : D} (h : mVar i ρ O = .ok d O') : ρ[i]? = some (some d) ∧ O' = O := by
  unfold mVar at h
  split at h
  · rename_i d' e
    cases h
    exact ⟨e, rfl⟩
  · cases h
theorem mG_ok {m : M D} {ρ : DEnv} {O O' : Store} {d : D} (h : mG m ρ O = .ok d O') : m ρ O = .ok d O' ∧ notL d = true := by
  unfold mG at h
  split at h
  · rename_i d' O1 e
    split at h
    · rename_i hn
      cases h
      exact ⟨e, hn⟩
    · cases h
  · rename_i hne
    exact absurd h (hne _ _)
theorem SlO.get {K : Frag} {ρ : DEnv} {σ : St} {H F : Hp} {as : List Addr} {i : Nat} {d : D} (s : SlO K md P ρ σ H F as) (h : ρ[i]? = some (some d)) : ∃ m v, md[i]? = some m ∧ σ[i]? = some (some v) ∧ SlotR P K H F as m v d := by
  have hi : i < md.length := by rw [← s.len']; exact (List.getElem?_eq_some_iff.mp h).1
  obtain ⟨v, h1, h2⟩ := s.sl i md[i] d (List.getElem?_eq_getElem hi) h
  exact ⟨_, v, List.getElem?_eq_getElem hi, h1, h2⟩
theorem SlotR.sv {K : Frag} {H F : Hp} {as : List Addr} {m : Md} {v : V} {d : D} (h : SlotR P K H F as m v d) : Sv K H F as v d := by
  cases m with
  | v => exact .inl h
  | s =>
    rcases h with h | ⟨a, xs, ds, e1, e2, e3, e4, e5, e6⟩
    · exact .inl h
    · exact .inr ⟨a, xs, ds, e1, e2, e3, e4, e6⟩
  | o =>
    rcases h with ⟨_, h⟩ | ⟨a, xs, ds, e1, e2, e3, e0, e4, e5, e6⟩
    · exact .inl h
    · exact .inr ⟨a, xs, ds, e1, e2, e3, e4, e6⟩
theorem se_var (i : Nat) {x : Str} {pos : Pos} (hN : X.N[i]? = some x := by rfl) (hv : Vis X.env.scope x := by first | exact Or.inl rfl | exact Or.inr (Or.inl rfl) | exact Or.inr (Or.inr rfl))
    (hd : (x == ("__debug__" : Str)) = false := by decide) (hcd : (x == ("__classdict__" : Str)) = false := by decide) : SE X md P (.Name x pos) (mVar i) := by
  refine (pe_var (i := i) hN hv hd hcd).imp fun σ H Q h => ?_
  obtain ⟨ρ, O, F, as, d, O', r, s, e, k⟩ := h
  obtain ⟨e1, rfl⟩ := mVar_ok e
  obtain ⟨m, v, h1, h2, h3⟩ := s.get e1
  exact ⟨v, h2, k v H F as Gr.refl r h3.sv⟩
theorem ve_var (i : Nat) {x : Str} {pos : Pos} (hm : md[i]? = some .v := by rfl) (hN : X.N[i]? = some x := by rfl) (hv : Vis X.env.scope x := by first | exact Or.inl rfl | exact Or.inr (Or.inl rfl) | exact Or.inr (Or.inr rfl))
    (hd : (x == ("__debug__" : Str)) = false := by decide) (hcd : (x == ("__classdict__" : Str)) = false := by decide) : VE X md P (.Name x pos) (mVar i) := by
  refine (pe_var (i := i) hN hv hd hcd).imp fun σ H Q h => ?_
  obtain ⟨ρ, O, F, as, d, O', r, s, e, k⟩ := h
  obtain ⟨e1, rfl⟩ := mVar_ok e
  obtain ⟨v, h2, h3⟩ := s.sl i .v d hm e1
  exact ⟨v, h2, k v H F as Gr.refl r h3⟩
theorem se_ve {e : Expr} {m : M D} (h : VE X md P e m) : SE X md P e m := h.imp fun σ H Q q => by
  obtain ⟨ρ, O, F, as, d, O', r, s, e, k⟩ := q
  exact ⟨ρ, _, F, as, _, _, r, s, e, fun v H' F' as' g r' hv => k v H' F' as' g r' (.inl hv)⟩
theorem se_oe {e : Expr} {m : M D} (h : OE X md P e m) : SE X md P e m := h.imp fun σ H Q q => by
  obtain ⟨ρ, O, F, as, d, O', r, s, e, k⟩ := q
  exact ⟨ρ, _, F, as, _, _, r, s, e, fun v H' F' as' g r' hv => k v H' F' as' g r' (Ow.sv hv)⟩
theorem ve_se {e : Expr} {m : M D} (h : SE X md P e m) : VE X md P e (mG m) := h.imp fun σ H Q q => by
  obtain ⟨ρ, O, F, as, d, O', r, s, e, k⟩ := q
  obtain ⟨e, hn⟩ := mG_ok e
  exact ⟨ρ, _, F, as, _, _, r, s, e, fun v H' F' as' g r' hv => k v H' F' as' g r' (Sv.rp hv hn)⟩
theorem ve_oe {e : Expr} {m : M D} (h : OE X md P e m) : VE X md P e m := h.imp fun σ H Q q => by
  obtain ⟨ρ, O, F, as, d, O', r, s, e, k⟩ := q
  refine ⟨ρ, _, F, as, _, _, r, s, e, fun v H' F' as' g r' hv => ?_⟩
  rcases hv with ⟨_, hv⟩ | ⟨a, xs, ds, rfl, rfl, e3, e4, e5, e6, e7⟩
  · exact k v H' F' as' g r' hv
  · have ff : Same F' (upd F' a (.lst xs)) := fun b u q => by rw [upd_ne (ne_of_none q e4)]; exact q
    refine k _ H' (upd F' a (.lst xs)) as' (g.frz e6 e4) (r'.frz e3 e4 e5 rfl) (Rp.mkL (.inl (.inl upd_same)) (Rps.mono ff (fun _ _ z => z) _ e7))
theorem ve_c {e : Expr} {v : V} {d : D} (h : PE X e (tC v)) (hd : ∀ K F as, Rp K F as v d) : VE X md P e (mC d) := h.imp fun σ H Q q => by
  obtain ⟨ρ, O, F, as, d, O', r, s, e, k⟩ := q
  cases e
  exact k v H F as Gr.refl r (hd _ _ _)
theorem ve_int {i : Int} {j pos} : VE X md P (.Constant (.int i) j pos) (mC (.int i)) := ve_c pe_int fun _ _ _ => Rp.int
theorem ve_bl {b : Bool} {j pos} : VE X md P (.Constant (.bool b) j pos) (mC (.bl b)) := ve_c pe_bl fun _ _ _ => Rp.bl
theorem ve_str {x : Str} {j pos} (l : List Nat) (hx : x = S l := by decide +kernel) : VE X md P (.Constant (.str x) j pos) (mC (.str l)) := ve_c pe_str fun _ _ _ => by rw [hx]; exact Rp.str
theorem ve_const {x : Str} {v : V} {d : D} {pos : Pos} (h : ∃ u, X.mg x = some u ∧ RelV v u) (hd : ∀ K F as, Rp K F as v d) (hg : Gl X x := by rfl) (hdb : (x == ("__debug__" : Str)) = false := by decide) : VE X md P (.Name x pos) (mC d) := ve_c (pe_const h hg hdb) hd
def maNil : M (List D) := fun _ O => .ok [] O
def maCons (m : M D) (r : M (List D)) : M (List D) := fun ρ O => (m ρ O).bind fun d O1 => (r ρ O1).bind fun ds O2 => .ok (d :: ds) O2
theorem ae_nil : AE X md P [] [] maNil := pa_nil.imp fun σ H Q q => by
  obtain ⟨ρ, O, F, as, d, O', r, s, e, k⟩ := q
  cases e
  exact k [] H F as Gr.refl r trivial
theorem rA.gr {K : Frag} {m : Md} {N : Addr → Prop} {H F H' F' : Hp} {as as' : List Addr} {v : V} {d : D} (h : rA K m N H F as v d) (g : Gr H F as H' F' as') : rA K m (fun _ => True) H' F' as' v d := by
  cases m with
  | v => exact Rp.gr (show Rp K F as v d from h) g
  | s => exact Sv.gr (show Sv K H F as v d from h) g
  | o => exact Sv.gr (show Sv K H F as v d from h) g
theorem ArgsR.gr {K : Frag} {H F H' F' : Hp} {as as' : List Addr} (g : Gr H F as H' F' as') : ∀ {ms : List Md} {vs : List V} {ds : List D}, ArgsR K H F as ms vs ds → ArgsR K H' F' as' ms vs ds
  | [], [], [], _ => trivial
  | m :: ms, v :: vs, d :: ds, h => ⟨rA.gr h.1 g, ArgsR.gr g h.2⟩
  | [], [], _ :: _, h => h.elim
  | [], _ :: _, [], h => h.elim
  | [], _ :: _, _ :: _, h => h.elim
  | _ :: _, [], [], h => h.elim
  | _ :: _, [], _ :: _, h => h.elim
  | _ :: _, _ :: _, [], h => h.elim
theorem ae_cons (md0 : Md) {e : Expr} {es : List Expr} {m : M D} {ms : List Md} {r : M (List D)} (h : XE X md P (rA X.K md0) e m) (hr : AE X md P ms es r)
    (hs : starEach (e :: es) X.env = (false, eval e X.env) :: starEach es X.env := by exact starC rfl) : AE X md P (md0 :: ms) (e :: es) (maCons m r) := (pa_cons h hr hs).imp fun σ H Q q => by
  obtain ⟨ρ, O, F, as, d, O', r0, s, e, k⟩ := q
  obtain ⟨d, O1, e1, e⟩ := Res.bind_ok e
  obtain ⟨ds', O2, e2, e⟩ := Res.bind_ok e
  cases e
  refine ⟨ρ, _, F, as, _, _, r0, s, e1, fun v H1 F1 as1 g1 r1 hv => ?_⟩
  refine ⟨ρ, _, F1, as1, _, _, r1, s.step g1, e2, fun vs H2 F2 as2 g2 r2 hvs => ?_⟩
  exact k (v :: vs) H2 F2 as2 (g1.trans g2) r2 ⟨rA.gr hv g2, hvs⟩
theorem ae_v {e : Expr} {es : List Expr} {m : M D} {ms : List Md} {r : M (List D)} (h : VE X md P e m) (hr : AE X md P ms es r)
    (hs : starEach (e :: es) X.env = (false, eval e X.env) :: starEach es X.env := by exact starC rfl) : AE X md P (.v :: ms) (e :: es) (maCons m r) := ae_cons .v h hr hs
theorem ae_s {e : Expr} {es : List Expr} {m : M D} {ms : List Md} {r : M (List D)} (h : SE X md P e m) (hr : AE X md P ms es r)
    (hs : starEach (e :: es) X.env = (false, eval e X.env) :: starEach es X.env := by exact starC rfl) : AE X md P (.s :: ms) (e :: es) (maCons m r) := ae_cons .s h hr hs
theorem ArgsR.rps {K : Frag} {H F : Hp} {as : List Addr} : ∀ {n : Nat} {vs : List V} {ds : List D}, ArgsR K H F as (List.replicate n .v) vs ds → Rps K F as vs ds
  | 0, [], [], _ => Rps.nil
  | n + 1, v :: vs, d :: ds, h => by
    rw [List.replicate_succ] at h
    exact Rps.cons h.1 (ArgsR.rps h.2)
  | 0, [], _ :: _, h => h.elim
  | 0, _ :: _, [], h => h.elim
  | 0, _ :: _, _ :: _, h => h.elim
  | n + 1, [], [], h => h.elim
  | n + 1, [], _ :: _, h => h.elim
  | n + 1, _ :: _, [], h => h.elim
def mLst (r : M (List D)) : M D := fun ρ O => (r ρ O).bind fun ds O1 => if ds.length ≤ 1000000 then .ok (.lst ds) O1 else .no
def mTup (r : M (List D)) : M D := fun ρ O => (r ρ O).bind fun ds O1 => if ds.length ≤ 1000000 then .ok (.tup ds) O1 else .no
theorem size6 {n : Nat} (h : n ≤ 1000000) : n ≤ sizeLine := Nat.le_trans h (by decide)
theorem oe_lst {es : List Expr} {pos : Pos} {r : M (List D)} (n : Nat) (h : AE X md P (List.replicate n .v) es r) : OE X md P (.List es pos) (mLst r) := (pe_lst h).imp fun σ H Q q => by
  obtain ⟨ρ, O, F, as, d, O', r0, s, e, k⟩ := q
  obtain ⟨ds, O1, e1, e⟩ := Res.bind_ok e
  split at e
  · rename_i hz
    cases e
    refine ⟨ρ, _, F, as, _, _, r0, s, e1, fun vs H1 F1 as1 g1 r1 hv => ?_⟩
    have hr := hv.rps
    refine ⟨by rw [hr.length]; exact size6 hz, fun p hp => ?_⟩
    have hF : F1 p = none := by
      cases q : F1 p with
      | none => rfl
      | some o => rw [r1.fh p o q] at hp; cases hp
    refine k _ _ F1 as1 (g1.trans (Gr.lay hp)) (r1.lay hp) (.inr ⟨p, vs, ds, rfl, rfl, upd_same, hF, fun z => r1.all z hp, g1.dm p hp, hr⟩)
  · cases e
theorem ve_tup {es : List Expr} {pos : Pos} {x1} {r : M (List D)} (n : Nat) (h : AE X md P (List.replicate n .v) es r) : VE X md P (.Tuple es x1 pos) (mTup r) := (pe_tup h).imp fun σ H Q q => by
  obtain ⟨ρ, O, F, as, d, O', r0, s, e, k⟩ := q
  obtain ⟨ds, O1, e1, e⟩ := Res.bind_ok e
  split at e
  · rename_i hz
    cases e
    refine ⟨ρ, _, F, as, _, _, r0, s, e1, fun vs H1 F1 as1 g1 r1 hv => ?_⟩
    have hr := hv.rps
    refine ⟨by rw [hr.length]; exact size6 hz, fun p hp => ?_⟩
    have hF : F1 p = none := by
      cases q : F1 p with
      | none => rfl
      | some o => rw [r1.fh p o q] at hp; cases hp
    have ff : Same F1 (upd F1 p (.tup vs)) := fun b u q => by rw [upd_ne (ne_of_none q hF)]; exact q
    refine k _ _ (upd F1 p (.tup vs)) as1 ((g1.trans (Gr.lay hp)).frz (g1.dm p hp) hF) ((r1.lay hp).frz upd_same hF (fun z => r1.all z hp) rfl) (Rp.mkT (.inl upd_same) (Rps.mono ff (fun _ _ z => z) _ hr))
  · cases e
def rD (K : Frag) (mg : Str → Option Value) (g : D → D → Option D) : R2 := fun x y H Q => ∃ O F as dx dy d, RlO K mg O H F as ∧ Lk K H F as x dx ∧ Lk K H F as y dy ∧ g dx dy = some d ∧
  ∀ v' H' F', Gr H F as H' F' as → RlO K mg O H' F' as → Ow K (fun a => H a = none) H' F' as v' d → Q v' H'
abbrev OpD (X : Cx) (f : Value → Value → Sem Value) (g : D → D → Option D) : Prop := OpR X f (rD X.K X.mg g)
def mBin (g : D → D → Option D) (ma mb : M D) : M D := fun ρ O => (ma ρ O).bind fun x O1 => (mb ρ O1).bind fun y O2 => match g (deref O2 x) (deref O2 y) with
  | some d => .ok d O2
  | none => .no
theorem bin_go {K : Frag} {mg : Str → Option Value} {g : D → D → Option D} {ma mb : M D} {σ : St} {H : Hp} {Q : VK} (h : tM K mg md P (rO K) (mBin g ma mb) σ H Q) : tOp (rD K mg g) (tM K mg md P (rS K) ma) (tM K mg md P (rS K) mb) σ H Q := by
  obtain ⟨ρ, O, F, as, d, O', r, sl, e, k⟩ := h
  obtain ⟨x, O1, e1, e⟩ := Res.bind_ok e
  obtain ⟨y, O2, e2, e⟩ := Res.bind_ok e
  split at e
  · rename_i d' hg
    cases e
    refine ⟨ρ, _, F, as, _, _, r, sl, e1, fun v H1 F1 as1 g1 r1 hv => ?_⟩
    refine ⟨ρ, _, F1, as1, _, _, r1, sl.step g1, e2, fun u H2 F2 as2 g2 r2 hu => ?_⟩
    refine ⟨_, F2, as2, _, _, _, r2, Sv.lk (Sv.gr hv g2) r2, Sv.lk hu r2, hg, fun v' H' F' g' r' hw => ?_⟩
    exact k v' H' F' as2 ((g1.trans g2).trans g') r' (rO_ok _ _ _ _ _ _ _ (fun a ha => (g1.trans g2).dm a ha) hw)
  · cases e
theorem oe_bin {e1 e2 : Expr} {pos : Pos} {op : Operator} {g : D → D → Option D} {ma mb : M D} (ho : OpD X (binaryOp op) g) (ha : SE X md P e1 ma) (hb : SE X md P e2 mb) : OE X md P (.BinOp e1 op e2 pos) (mBin g ma mb) :=
  (pe_op ho ha hb).imp fun _ _ _ => bin_go
theorem oe_cmp {e1 e2 : Expr} {pos : Pos} {op : CmpOp} {g : D → D → Option D} {ma mb : M D} (ho : OpD X (compareOp op) g) (ha : SE X md P e1 ma) (hb : SE X md P e2 mb) (hm : behindInMarks op e2 = false) : OE X md P (.Compare e1 [op] [e2] pos) (mBin g ma mb) :=
  (pe_cmpR ho ha hb hm).imp fun _ _ _ => bin_go
def mTest (m : M D) : M Bool := fun ρ O => (m ρ O).bind fun d O1 => match d with
  | .bl b => .ok b O1
  | _ => .no
theorem test_go {K : Frag} {mg : Str → Option Value} {m : M D} {σ : St} {H : Hp} {Q : Bool → Hp → Prop} (h : tMT K mg md P (mTest m) σ H Q) : tTest (tM K mg md P (rO K) m) σ H Q := by
  obtain ⟨ρ, O, F, as, d, O', r, sl, e, k⟩ := h
  obtain ⟨d, O1, e1, e⟩ := Res.bind_ok e
  cases d with
  | bl c =>
    cases e
    refine ⟨ρ, _, F, as, _, _, r, sl, e1, fun v H1 F1 as1 g1 r1 hv => ?_⟩
    rcases hv with ⟨_, hv⟩ | ⟨a, xs, ds, _, e2, _⟩
    · exact ⟨_, hv.unB, k H1 F1 as1 g1 r1⟩
    · cases e2
  | _ => cases e
theorem ts_cmp {e1 e2 : Expr} {pos : Pos} {op : CmpOp} {g : D → D → Option D} {ma mb : M D} (ho : OpD X (compareOp op) g) (ha : SE X md P e1 ma) (hb : SE X md P e2 mb) (hm : behindInMarks op e2 = false) : TsE X md P (.Compare e1 [op] [e2] pos) (mTest (mBin g ma mb)) :=
  (pt_cmpR ho ha hb hm).imp fun σ H Q h => by
    have q := test_go h
    exact bin_go q
def mChain (g g' : D → D → Option D) (ma mb mc : M D) : M D := fun ρ O => (ma ρ O).bind fun x O1 => (mb ρ O1).bind fun y O2 => match g (deref O2 x) (deref O2 y) with
  | some (.bl true) => (mc ρ O2).bind fun z O3 => match g' (deref O3 y) (deref O3 z) with
    | some d => .ok d O3
    | none => .no
  | some (.bl false) => .ok (.bl false) O2
  | _ => .no
def isNon : D → Bool
  | .non => true
  | _ => false
def mIsN (m : M D) : M D := fun ρ O => (m ρ O).bind fun d O1 => .ok (.bl (isNon d)) O1
def mNotN (m : M D) : M D := fun ρ O => (m ρ O).bind fun d O1 => .ok (.bl (!isNon d)) O1
def truD : D → Option Bool
  | .non => some false
  | .bl b => some b
  | .int i => some (i != 0)
  | .str l => if l.length ≤ 1000000 then some (!l.isEmpty) else none
  | .lst ds => some (!ds.isEmpty)
  | .tup ds => some (!ds.isEmpty)
  | .dic ks _ => some (!ks.isEmpty)
  | .ob _ => none
def mTru (m : M D) : M Bool := fun ρ O => (m ρ O).bind fun d O1 => match truD (deref O1 d) with
  | some b => .ok b O1
  | none => .no
theorem empty_len {α β : Type} {xs : List α} {ys : List β} (h : xs.length = ys.length) : (!xs.isEmpty) = !ys.isEmpty := by
  cases xs <;> cases ys <;> simp_all
theorem Lk.tru {K : Frag} {H F : Hp} {as : List Addr} {v : V} {d : D} {b : Bool} (h : Lk K H F as v d) (fh : Same F H) (e : truD d = some b) : TruV K v H b := by
  cases d with
  | non => rw [(h.rp rfl).unN]; cases e; rfl
  | bl b => rw [(h.rp rfl).unB]; cases e; rfl
  | int b => rw [(h.rp rfl).unI]; cases e; rfl
  | str l =>
    rw [(h.rp rfl).unS]
    simp only [truD] at e
    split at e
    · rename_i hl
      cases e
      refine ⟨by rw [S_length]; exact size6 hl, ?_⟩
      rw [S_length]
      cases l with
      | nil => rfl
      | cons c l =>
        have : ((((c :: l).length : Nat) : Int) != 0) = true := by
          rw [bne_iff_ne, List.length_cons]
          omega
        rw [this]
        rfl
    · cases e
  | lst ds =>
    obtain ⟨a, xs, rfl, h1, h2⟩ := h.list fh
    cases e
    exact .inl ⟨xs, h1.sq, (empty_len h2.length).symm⟩
  | tup ds =>
    obtain ⟨a, xs, rfl, h1, h2⟩ := (h.rp rfl).unT
    cases e
    exact .inr (.inl ⟨xs, Same.seqT fh h1, (empty_len h2.length).symm⟩)
  | dic ks vs =>
    obtain ⟨a, kvs, rfl, h1, rfl, h2⟩ := (h.rp rfl).unD
    cases e
    exact .inr (.inr ⟨kvs, fh _ _ h1, by cases kvs <;> rfl⟩)
  | ob n => cases e
theorem ts_val {a : Expr} {m : M D} (h : SE X md P a m) (he : ∀ whole, isTrue a X.env whole = (do let v ← whole; standAt a.pos; holding [v] (truthy v)) := by intro _; rfl) : TsE X md P a (mTru m) := (pt_truth h he).imp fun σ H Q q => by
  obtain ⟨ρ, O, F, as, d, O', r, sl, e, k⟩ := q
  obtain ⟨d, O1, e1, e⟩ := Res.bind_ok e
  split at e
  · rename_i c hc
    cases e
    exact ⟨ρ, _, F, as, _, _, r, sl, e1, fun v H1 F1 as1 g1 r1 hv => ⟨_, Lk.tru (Sv.lk hv r1) r1.fh hc, k H1 F1 as1 g1 r1⟩⟩
  · cases e
def mtAnd (a b : M Bool) : M Bool := fun ρ O => (a ρ O).bind fun c O1 => if c = true then b ρ O1 else .ok false O1
def mtOr (a b : M Bool) : M Bool := fun ρ O => (a ρ O).bind fun c O1 => if c = true then .ok true O1 else b ρ O1
def mtNot (a : M Bool) : M Bool := fun ρ O => (a ρ O).bind fun c O1 => .ok (!c) O1
theorem tand_go {K : Frag} {mg : Str → Option Value} {ma mb : M Bool} {σ : St} {H : Hp} {Q : Bool → Hp → Prop} (h : tMT K mg md P (mtAnd ma mb) σ H Q) : tAnd (tMT K mg md P ma) (tMT K mg md P mb) σ H Q := by
  obtain ⟨ρ, O, F, as, d, O', r, sl, e, k⟩ := h
  obtain ⟨c, O1, e1, e⟩ := Res.bind_ok e
  refine ⟨ρ, _, F, as, _, _, r, sl, e1, fun H1 F1 as1 g1 r1 => ?_⟩
  cases c with
  | true =>
    rw [if_pos rfl] at e ⊢
    exact ⟨ρ, _, F1, as1, _, _, r1, sl.step g1, e, fun H2 F2 as2 g2 r2 => k H2 F2 as2 (g1.trans g2) r2⟩
  | false =>
    rw [if_neg Bool.false_ne_true] at e ⊢
    cases e
    exact k H1 F1 as1 g1 r1
theorem tor_go {K : Frag} {mg : Str → Option Value} {ma mb : M Bool} {σ : St} {H : Hp} {Q : Bool → Hp → Prop} (h : tMT K mg md P (mtOr ma mb) σ H Q) : tOr (tMT K mg md P ma) (tMT K mg md P mb) σ H Q := by
  obtain ⟨ρ, O, F, as, d, O', r, sl, e, k⟩ := h
  obtain ⟨c, O1, e1, e⟩ := Res.bind_ok e
  refine ⟨ρ, _, F, as, _, _, r, sl, e1, fun H1 F1 as1 g1 r1 => ?_⟩
  cases c with
  | true =>
    rw [if_pos rfl] at e ⊢
    cases e
    exact k H1 F1 as1 g1 r1
  | false =>
    rw [if_neg Bool.false_ne_true] at e ⊢
    exact ⟨ρ, _, F1, as1, _, _, r1, sl.step g1, e, fun H2 F2 as2 g2 r2 => k H2 F2 as2 (g1.trans g2) r2⟩
theorem tw_and1 {a : Expr} {pos : Pos} {m : M Bool} (h : TsE X md P a m) : TwE X md P (.BoolOp .And [a] pos) m := pw_and1 h
theorem tw_or1 {a : Expr} {pos : Pos} {m : M Bool} (h : TsE X md P a m) : TwE X md P (.BoolOp .Or [a] pos) m := pw_or1 h
theorem tw_and {a b : Expr} {rest : List Expr} {pos : Pos} {ma mb : M Bool} (ha : TsE X md P a ma) (hb : TwE X md P (.BoolOp .And (b :: rest) pos) mb) : TwE X md P (.BoolOp .And (a :: b :: rest) pos) (mtAnd ma mb) := (pw_and ha hb).imp fun _ _ _ => tand_go
theorem tw_or {a b : Expr} {rest : List Expr} {pos : Pos} {ma mb : M Bool} (ha : TsE X md P a ma) (hb : TwE X md P (.BoolOp .Or (b :: rest) pos) mb) : TwE X md P (.BoolOp .Or (a :: b :: rest) pos) (mtOr ma mb) := (pw_or ha hb).imp fun _ _ _ => tor_go
theorem ts_w {e : Expr} {m : M Bool} (h : TwE X md P e m) : TsE X md P e m := PW.pt h
theorem ts_not {a : Expr} {pos : Pos} {m : M Bool} (h : TsE X md P a m) : TsE X md P (.UnaryOp .Not a pos) (mtNot m) := (pt_not h).imp fun σ H Q q => by
  obtain ⟨ρ, O, F, as, d, O', r, sl, e, k⟩ := q
  obtain ⟨c, O1, e1, e⟩ := Res.bind_ok e
  cases e
  exact ⟨ρ, _, F, as, _, _, r, sl, e1, k⟩
def mAndV (ma mb : M D) : M D := fun ρ O => (ma ρ O).bind fun d O1 => match d with
  | .bl true => mb ρ O1
  | .bl false => .ok (.bl false) O1
  | _ => .no
def mOrV (ma mb : M D) : M D := fun ρ O => (ma ρ O).bind fun d O1 => match d with
  | .bl true => .ok (.bl true) O1
  | .bl false => mb ρ O1
  | _ => .no
def mNotV (ma : M D) : M D := fun ρ O => (ma ρ O).bind fun d O1 => match d with
  | .bl b => .ok (.bl (!b)) O1
  | _ => .no
theorem ve_one {a : Expr} {pos : Pos} {op} {m : M D} (h : VE X md P a m) : VE X md P (.BoolOp op [a] pos) m := pe_one h
theorem ve_and {a b : Expr} {rest : List Expr} {pos : Pos} {ma mb : M D} (ha : VE X md P a ma) (hb : VE X md P (.BoolOp .And (b :: rest) pos) mb) : VE X md P (.BoolOp .And (a :: b :: rest) pos) (mAndV ma mb) := (pe_and ha hb).imp fun σ H Q q => by
  obtain ⟨ρ, O, F, as, d, O', r, sl, e, k⟩ := q
  obtain ⟨x, O1, e1, e⟩ := Res.bind_ok e
  refine ⟨ρ, _, F, as, _, _, r, sl, e1, fun v H1 F1 as1 g1 r1 hv => ?_⟩
  cases x with
  | bl c =>
    refine ⟨c, Rp.unB hv, ?_⟩
    cases c with
    | true =>
      rw [if_pos rfl]
      exact ⟨ρ, _, F1, as1, _, _, r1, sl.step g1, e, fun v2 H2 F2 as2 g2 r2 hv2 => k v2 H2 F2 as2 (g1.trans g2) r2 hv2⟩
    | false =>
      rw [if_neg Bool.false_ne_true]
      cases e
      exact k _ H1 F1 as1 g1 r1 Rp.bl
  | _ => cases e
theorem ve_or {a b : Expr} {rest : List Expr} {pos : Pos} {ma mb : M D} (ha : VE X md P a ma) (hb : VE X md P (.BoolOp .Or (b :: rest) pos) mb) : VE X md P (.BoolOp .Or (a :: b :: rest) pos) (mOrV ma mb) := (pe_or ha hb).imp fun σ H Q q => by
  obtain ⟨ρ, O, F, as, d, O', r, sl, e, k⟩ := q
  obtain ⟨x, O1, e1, e⟩ := Res.bind_ok e
  refine ⟨ρ, _, F, as, _, _, r, sl, e1, fun v H1 F1 as1 g1 r1 hv => ?_⟩
  cases x with
  | bl c =>
    refine ⟨c, Rp.unB hv, ?_⟩
    cases c with
    | true =>
      rw [if_pos rfl]
      cases e
      exact k _ H1 F1 as1 g1 r1 Rp.bl
    | false =>
      rw [if_neg Bool.false_ne_true]
      exact ⟨ρ, _, F1, as1, _, _, r1, sl.step g1, e, fun v2 H2 F2 as2 g2 r2 hv2 => k v2 H2 F2 as2 (g1.trans g2) r2 hv2⟩
  | _ => cases e
theorem ve_not {a : Expr} {pos : Pos} {m : M D} (h : VE X md P a m) : VE X md P (.UnaryOp .Not a pos) (mNotV m) := (pe_not h).imp fun σ H Q q => by
  obtain ⟨ρ, O, F, as, d, O', r, sl, e, k⟩ := q
  obtain ⟨x, O1, e1, e⟩ := Res.bind_ok e
  refine ⟨ρ, _, F, as, _, _, r, sl, e1, fun v H1 F1 as1 g1 r1 hv => ?_⟩
  cases x with
  | bl c =>
    cases e
    exact ⟨c, Rp.unB hv, k _ H1 F1 as1 g1 r1 Rp.bl⟩
  | _ => cases e
def mIf (t : M Bool) (a b : M D) : M D := fun ρ O => (t ρ O).bind fun c O1 => if c = true then a ρ O1 else b ρ O1
theorem xe_if (hR : RRok R) {c a b : Expr} {pos : Pos} {mc : M Bool} {ma mb : M D} (hc : TsE X md P c mc) (ha : PE X a (tM X.K X.mg md P R ma)) (hb : PE X b (tM X.K X.mg md P R mb)) : PE X (.IfExp c a b pos) (tM X.K X.mg md P R (mIf mc ma mb)) := (pe_ifExp hc ha hb).imp fun σ H Q q => by
  obtain ⟨ρ, O, F, as, d, O', r, sl, e, k⟩ := q
  obtain ⟨x, O1, e1, e⟩ := Res.bind_ok e
  refine ⟨ρ, _, F, as, _, _, r, sl, e1, fun H1 F1 as1 g1 r1 => ?_⟩
  cases x with
  | true =>
    rw [if_pos rfl] at e ⊢
    exact ⟨ρ, _, F1, as1, _, _, r1, sl.step g1, e, fun v2 H2 F2 as2 g2 r2 hv2 => k v2 H2 F2 as2 (g1.trans g2) r2 (hR _ _ _ _ _ _ _ (fun a ha => g1.dm a ha) hv2)⟩
  | false =>
    rw [if_neg Bool.false_ne_true] at e ⊢
    exact ⟨ρ, _, F1, as1, _, _, r1, sl.step g1, e, fun v2 H2 F2 as2 g2 r2 hv2 => k v2 H2 F2 as2 (g1.trans g2) r2 (hR _ _ _ _ _ _ _ (fun a ha => g1.dm a ha) hv2)⟩
theorem ve_if {c a b : Expr} {pos : Pos} {mc : M Bool} {ma mb : M D} (hc : TsE X md P c mc) (ha : VE X md P a ma) (hb : VE X md P b mb) : VE X md P (.IfExp c a b pos) (mIf mc ma mb) := xe_if rV_ok hc ha hb
end
end L2
namespace L2
open PySem PySem.Spec PyProof.Rows
section
variable {K : Frag} {mg : Str → Option Value} {md : List Md} {P : Pt} {R : RR} {ρ : DEnv} {σ : St} {H F H' F' : Hp} {as as' : List Addr} {O O' : Store}
theorem SlO.set {i : Nat} {m : Md} {v : V} {d : D} (s : SlO K md P ρ σ H F as) (hm : md[i]? = some m) (hns : m ≠ .s) (hv : SlotR P K H F as m v d)
    (hj : ∀ (a : Addr) (ds : List D) (j : Nat) (es : List D), m = .o → v = .ref a → d = .lst ds → i ≠ j → md[j]? = some .o → ρ[j]? = some (some (.lst es)) → σ[j]? ≠ some (some (.ref a))) : SlO K md P (ρ.set i (some d)) (σ.set i (some v)) H F as := by
  have hi : i < md.length := (List.getElem?_eq_some_iff.mp hm).1
  refine ⟨by rw [List.length_set]; exact s.len, by rw [List.length_set]; exact s.len', s.pd, fun j m' d' e1 e2 => ?_, fun j k a ds es h1 h2 h3 h4 h5 h6 => ?_, fun x hx => ?_⟩
  · by_cases h : i = j
    · subst h
      rw [hm] at e1; cases e1
      rw [List.getElem?_set_self (by rw [s.len']; exact hi)] at e2
      cases e2
      exact ⟨v, List.getElem?_set_self (by rw [s.len]; exact hi), hv⟩
    · rw [List.getElem?_set_ne h] at e2
      rw [List.getElem?_set_ne h]
      exact s.sl j m' d' e1 e2
  · by_cases hij : i = j
    · by_cases hik : i = k
      · rw [← hij, ← hik]
      · exfalso
        subst hij
        rw [hm] at h1; cases h1
        rw [List.getElem?_set_self (by rw [s.len']; exact hi)] at h3
        rw [List.getElem?_set_self (by rw [s.len]; exact hi)] at h5
        rw [List.getElem?_set_ne hik] at h4 h6
        cases h3; cases h5
        exact hj a ds k es rfl rfl rfl hik h2 h4 h6
    · by_cases hik : i = k
      · exfalso
        subst hik
        rw [hm] at h2; cases h2
        rw [List.getElem?_set_self (by rw [s.len']; exact hi)] at h4
        rw [List.getElem?_set_self (by rw [s.len]; exact hi)] at h6
        rw [List.getElem?_set_ne hij] at h3 h5
        cases h4; cases h6
        exact hj a es j ds rfl rfl rfl hij h1 h3 h5
      · rw [List.getElem?_set_ne hij] at h3 h5
        rw [List.getElem?_set_ne hik] at h4 h6
        exact s.inj j k a ds es h1 h2 h3 h4 h5 h6
  · obtain ⟨p1, p2, p3⟩ := s.pin x hx
    have hne : i ≠ x.1 := fun z => by
      rw [← z, hm] at p1
      exact hns (Option.some.inj p1)
    exact ⟨p1, by rw [List.getElem?_set_ne hne]; exact p2, by rw [List.getElem?_set_ne hne]; exact p3⟩
theorem SlO.setV {i : Nat} {v : V} {d : D} (s : SlO K md P ρ σ H F as) (hm : md[i]? = some .v) (hv : Rp K F as v d) : SlO K md P (ρ.set i (some d)) (σ.set i (some v)) H F as :=
  s.set hm (by decide) hv fun _ _ _ _ z => nomatch z
theorem SlO.setN {i : Nat} {v : V} {d : D} (s : SlO K md P ρ σ H F as) (hm : md[i]? = some .o) (hn : notL d = true) (hv : Rp K F as v d) : SlO K md P (ρ.set i (some d)) (σ.set i (some v)) H F as :=
  s.set hm (by decide) (.inl ⟨hn, hv⟩) fun _ _ _ _ _ _ z => by subst z; cases hn
theorem SlO.setO {i : Nat} {v : V} {d : D} {H0 : Hp} (s : SlO K md P ρ σ H0 F as) (g : Gr H0 F as H' F' as') (hm : md[i]? = some .o) (hv : Ow K (fun a => H0 a = none) H' F' as' v d) : SlO K md P (ρ.set i (some d)) (σ.set i (some v)) H' F' as' := by
  have s' := s.step g
  rcases hv with ⟨hn, hv⟩ | ⟨a, xs, ds, rfl, rfl, e3, e4, e5, e6, e7⟩
  · exact s'.setN hm hn hv
  · refine s'.set hm (by decide) (.inr ⟨a, xs, ds, rfl, rfl, e3, e4, e5, fun p => s.pd a p e6, e7⟩) fun b ds' j es _ hb hd hij hj he hs => ?_
    cases hb
    obtain ⟨v, h1, h2⟩ := s.sl j .o _ hj he
    rw [hs] at h1; cases h1
    rcases h2 with ⟨h2, _⟩ | ⟨a', xs', _, z1, _, z3, _⟩
    · cases h2
    · cases z1
      rw [e6] at z3; cases z3
end
section
variable {X : Cx} {md : List Md} {P : Pt} {R : RR}
def msNil : MS := fun ρ O => .nx ρ O
def msSeq (a b : MS) : MS := fun ρ O => match a ρ O with
  | .nx ρ' O' => b ρ' O'
  | r => r
theorem vss_nil : VSs X md P R [] msNil := pss_nil.imp fun D σ H q => by
  obtain ⟨ρ, O, F, as, r, s, k⟩ := q
  exact k σ H F as GrS.refl r s
theorem tMS_gr {K : Frag} {mg : Str → Option Value} {D : Ends} {H F H1 F1 : Hp} {as as1 : List Addr} (g : GrS P H F as H1 F1 as1) {f : Fl} (k : FlOk K mg md P R D H F as f) : FlOk K mg md P R D H1 F1 as1 f := by
  cases f with
  | nx ρ' O' => exact fun σ' H' F' as' g' => k σ' H' F' as' (g.trans g')
  | bk ρ' O' => exact fun σ' H' F' as' g' => k σ' H' F' as' (g.trans g')
  | ct ρ' O' => exact fun σ' H' F' as' g' => k σ' H' F' as' (g.trans g')
  | rt d O' => exact fun σ' H' F' as' g' => k σ' H' F' as' (g.trans g')
  | ex _ _ => exact k
  | no => exact k
theorem vss_cons {st : Stmt} {rest : List Stmt} {a b : MS} (h1 : VS X md P R st a) (h2 : VSs X md P R rest b) : VSs X md P R (st :: rest) (msSeq a b) := (pss_cons h1 h2).imp fun D σ H q => by
  obtain ⟨ρ, O, F, as, r, s, k⟩ := q
  refine ⟨ρ, O, F, as, r, s, ?_⟩
  unfold msSeq at k
  cases e : a ρ O with
  | nx ρ' O' =>
    rw [e] at k
    dsimp only at k
    exact fun σ' H' F' as' g r' s' => ⟨ρ', O', F', as', r', s', tMS_gr g k⟩
  | bk ρ' O' => rw [e] at k; exact k
  | ct ρ' O' => rw [e] at k; exact k
  | rt d O' => rw [e] at k; exact k
  | ex x O' => rw [e] at k; exact k
  | no => rw [e] at k; exact k
theorem vss_one {st : Stmt} {a : MS} (h1 : VS X md P R st a) : VSs X md P R [st] a := pss_one h1
def msDrop (m : M D) : MS := fun ρ O => match m ρ O with
  | .ok _ O' => .nx ρ O'
  | .ex x O' => .ex x O'
  | .no => .no
def msRet (m : M D) : MS := fun ρ O => match m ρ O with
  | .ok d O' => .rt d O'
  | .ex x O' => .ex x O'
  | .no => .no
theorem vs_ret (hR : RRok R) {e : Expr} {pos : Pos} {m : M D} (h : PE X e (tM X.K X.mg md P R m)) : VS X md P R (.Return (some e) pos) (msRet m) := (ps_ret h).imp fun D σ H q => by
  obtain ⟨ρ, O, F, as, r, s, k⟩ := q
  unfold msRet at k
  cases e : m ρ O with
  | ok d O' =>
    rw [e] at k
    exact ⟨ρ, _, F, as, _, _, r, s, e, fun v H' F' as' g r' hv => k v H' F' as' g.toS r' (hR _ _ _ _ _ _ _ (fun a ha p => s.pd a p ha) hv)⟩
  | ex x O' => rw [e] at k; exact False.elim k
  | no => rw [e] at k; exact False.elim k
theorem vs_retV {e : Expr} {pos : Pos} {m : M D} (h : VE X md P e m) : VS X md P (rV X.K) (.Return (some e) pos) (msRet m) := vs_ret rV_ok h
theorem vs_retO {e : Expr} {pos : Pos} {m : M D} (h : OE X md P e m) : VS X md P (rO X.K) (.Return (some e) pos) (msRet m) := vs_ret rO_ok h
theorem vs_retX (i : Nat) {x : Str} {p pos : Pos} (hm : md[i]? = some .o := by rfl) (hN : X.N[i]? = some x := by rfl) (hv : Vis X.env.scope x := by first | exact Or.inl rfl | exact Or.inr (Or.inl rfl) | exact Or.inr (Or.inr rfl))
    (hd : (x == ("__debug__" : Str)) = false := by decide) (hcd : (x == ("__classdict__" : Str)) = false := by decide) : VS X md P (rO X.K) (.Return (some (.Name x p)) pos) (msRet (mVar i)) := (ps_ret (pe_var (i := i) hN hv hd hcd)).imp fun D σ H q => by
  obtain ⟨ρ, O, F, as, r, s, k⟩ := q
  unfold msRet at k
  cases e : mVar i ρ O with
  | ok d O' =>
    rw [e] at k
    obtain ⟨e1, rfl⟩ := mVar_ok e
    obtain ⟨v, h1, h2⟩ := s.sl i .o d hm e1
    refine ⟨v, h1, k v H F as GrS.refl r ?_⟩
    rcases h2 with h2 | ⟨a, xs, ds, e1, e2, e3, e0, e4, e5, e6⟩
    · exact .inl h2
    · exact .inr ⟨a, xs, ds, e1, e2, e3, e0, e4, e5, e6⟩
  | ex x O' => rw [e] at k; exact False.elim k
  | no => rw [e] at k; exact False.elim k
def msIf (t : M Bool) (a b : MS) : MS := fun ρ O => match t ρ O with
  | .ok c O' => if c = true then a ρ O' else b ρ O'
  | .ex x O' => .ex x O'
  | .no => .no
theorem vs_if {c : Expr} {a b : List Stmt} {pos : Pos} {t : M Bool} {ma mb : MS} (hc : TsE X md P c t) (ha : VSs X md P R a ma) (hb : VSs X md P R b mb) : VS X md P R (.If c a b pos) (msIf t ma mb) := (ps_if hc ha hb).imp fun D σ H q => by
  obtain ⟨ρ, O, F, as, r, s, k⟩ := q
  unfold msIf at k
  cases e : t ρ O with
  | ok c O' =>
    rw [e] at k
    refine ⟨ρ, _, F, as, _, _, r, s, e, fun H1 F1 as1 g r1 => ?_⟩
    dsimp only at k
    cases c with
    | true =>
      rw [if_pos rfl] at k ⊢
      exact ⟨ρ, O', F1, as1, r1, s.step g, tMS_gr g.toS k⟩
    | false =>
      rw [if_neg Bool.false_ne_true] at k ⊢
      exact ⟨ρ, O', F1, as1, r1, s.step g, tMS_gr g.toS k⟩
  | ex x O' => rw [e] at k; exact False.elim k
  | no => rw [e] at k; exact False.elim k
def msSet (i : Nat) (m : M D) : MS := fun ρ O => match m ρ O with
  | .ok d O' => .nx (ρ.set i (some d)) O'
  | .ex x O' => .ex x O'
  | .no => .no
theorem setV_go {K : Frag} {mg : Str → Option Value} {i : Nat} {m : M D} {t : TE} (hm : md[i]? = some .v) (ht : ∀ σ H Q, tM K mg md P (rV K) m σ H Q → t σ H Q) {D : Ends} {σ : St} {H : Hp} (q : tMS K mg md P R (msSet i m) D σ H) : tAsg t (gName i) D σ H := by
  obtain ⟨ρ, O, F, as, r, s, k⟩ := q
  unfold msSet at k
  cases e : m ρ O with
  | ok d O' =>
    rw [e] at k
    exact ht _ _ _ ⟨ρ, _, F, as, _, _, r, s, e, fun v H' F' as' g r' hv => k _ H' F' as' g.toS r' ((s.step g).setV hm hv)⟩
  | ex x O' => rw [e] at k; exact False.elim k
  | no => rw [e] at k; exact False.elim k
theorem setO_go {K : Frag} {mg : Str → Option Value} {i : Nat} {m : M D} {t : TE} (hm : md[i]? = some .o) (ht : ∀ σ H Q, tM K mg md P (rO K) m σ H Q → t σ H Q) {D : Ends} {σ : St} {H : Hp} (q : tMS K mg md P R (msSet i m) D σ H) : tAsg t (gName i) D σ H := by
  obtain ⟨ρ, O, F, as, r, s, k⟩ := q
  unfold msSet at k
  cases e : m ρ O with
  | ok d O' =>
    rw [e] at k
    exact ht _ _ _ ⟨ρ, _, F, as, _, _, r, s, e, fun v H' F' as' g r' hv => k _ H' F' as' g.toS r' (s.setO g hm hv)⟩
  | ex x O' => rw [e] at k; exact False.elim k
  | no => rw [e] at k; exact False.elim k
theorem vs_setV {i : Nat} {x : Str} {e : Expr} {pos pos' : Pos} {m : M D} (hN : X.N.Nodup) (hi : X.N[i]? = some x) (hx : Loc X.env.scope x) (h : VE X md P e m) (hm : md[i]? = some .v := by rfl) (hs : swapsWith e (some (.Name x pos')) pos.line X.env = pure false := by rfl)
    (hf : X.fn x = true ∨ X.env.scope.names.lookup x = some .local := by first | exact .inl rfl | exact .inr rfl | assumption) : VS X md P R (.Assign [.Name x pos'] e pos) (msSet i m) := (ps_set (i := i) hN hi hx h hs hf).imp fun D σ H q => setV_go hm (fun _ _ _ z => z) q
theorem vs_setO {i : Nat} {x : Str} {e : Expr} {pos pos' : Pos} {m : M D} (hN : X.N.Nodup) (hi : X.N[i]? = some x) (hx : Loc X.env.scope x) (h : OE X md P e m) (hm : md[i]? = some .o := by rfl) (hs : swapsWith e (some (.Name x pos')) pos.line X.env = pure false := by rfl)
    (hf : X.fn x = true ∨ X.env.scope.names.lookup x = some .local := by first | exact .inl rfl | exact .inr rfl | assumption) : VS X md P R (.Assign [.Name x pos'] e pos) (msSet i m) := (ps_set (i := i) hN hi hx h hs hf).imp fun D σ H q => setO_go hm (fun _ _ _ z => z) q
abbrev MG := D → DEnv → Option DEnv
def tMG (K : Frag) (mg : Str → Option Value) (md : List Md) (P : Pt) (g : MG) : TG := fun v σ H Q => ∃ ρ O F as d ρ', RlO K mg O H F as ∧ SlO K md P ρ σ H F as ∧ Rp K F as v d ∧ g d ρ = some ρ' ∧ ∀ σ', SlO K md P ρ' σ' H F as → Q σ' H
def tMGs (K : Frag) (mg : Str → Option Value) (md : List Md) (P : Pt) (g : List D → DEnv → Option DEnv) : TGs := fun vs σ H Q => ∃ ρ O F as ds ρ', RlO K mg O H F as ∧ SlO K md P ρ σ H F as ∧ Rps K F as vs ds ∧ g ds ρ = some ρ' ∧ ∀ σ', SlO K md P ρ' σ' H F as → Q σ' H
def VG (X : Cx) (md : List Md) (P : Pt) (tg : Expr) (g : MG) : Prop := PG X tg (tMG X.K X.mg md P g)
def VGs (X : Cx) (md : List Md) (P : Pt) (tg : List Expr) (g : List D → DEnv → Option DEnv) : Prop := PGs X tg (tMGs X.K X.mg md P g)
theorem PG.imp {e : Expr} {t t' : TG} (h : PG X e t) (k : ∀ v σ H Q, t' v σ H Q → t v σ H Q) : PG X e t' := fun pins s σ H v u Q I r q => h pins s σ H v u Q I r (k v σ H Q q)
theorem PGs.imp {e : List Expr} {t t' : TGs} (h : PGs X e t) (k : ∀ v σ H Q, t' v σ H Q → t v σ H Q) : PGs X e t' := fun pins s σ H v u Q I r q => h pins s σ H v u Q I r (k v σ H Q q)
def mgN (i : Nat) : MG := fun d ρ => some (ρ.set i (some d))
theorem vg_name {i : Nat} {x : Str} {pos : Pos} (hN : X.N.Nodup) (hi : X.N[i]? = some x) (hx : Loc X.env.scope x) (hm : md[i]? = some .v := by rfl) (hf : X.fn x = true ∨ X.env.scope.names.lookup x = some .local := by first | exact .inl rfl | exact .inr rfl | assumption) : VG X md P (.Name x pos) (mgN i) :=
  (pg_name (i := i) hN hi hx hf).imp fun v σ H Q q => by
    obtain ⟨ρ, O, F, as, d, ρ', r, s, hv, e, k⟩ := q
    cases e
    exact k _ (s.setV hm hv)
def mgsNil : List D → DEnv → Option DEnv := fun ds ρ => match ds with
  | [] => some ρ
  | _ => none
def mgsCons (g : MG) (r : List D → DEnv → Option DEnv) : List D → DEnv → Option DEnv := fun ds ρ => match ds with
  | d :: ds => (g d ρ).bind fun ρ1 => r ds ρ1
  | [] => none
theorem vgs_nil : VGs X md P [] mgsNil := pgs_nil.imp fun v σ H Q q => by
  obtain ⟨ρ, O, F, as, ds, ρ', r, s, hv, e, k⟩ := q
  cases ds with
  | nil => cases e; exact ⟨hv.un0, k _ s⟩
  | cons _ _ => cases e
theorem vgs_cons {e : Expr} {es : List Expr} {g : MG} {r : List D → DEnv → Option DEnv} (h1 : VG X md P e g) (h2 : VGs X md P es r) (hs : (assignEach (e :: es) X.env).map (·.2) = assign e X.env :: (assignEach es X.env).map (·.2) := by rfl) : VGs X md P (e :: es) (mgsCons g r) :=
  (pgs_cons h1 h2 hs).imp fun v σ H Q q => by
    obtain ⟨ρ, O, F, as, ds, ρ', r0, s, hv, e, k⟩ := q
    cases ds with
    | nil => cases e
    | cons d ds =>
      obtain ⟨x, rs, rfl, hx, hr⟩ := hv.un
      unfold mgsCons at e
      dsimp only at e
      cases e1 : g d ρ with
      | none => rw [e1] at e; cases e
      | some ρ1 =>
        rw [e1] at e
        exact ⟨x, rs, rfl, ρ, O, F, as, d, ρ1, r0, s, hx, e1, fun σ' s' => ⟨ρ1, O, F, as, ds, ρ', r0, s', hr, e, k⟩⟩
def mgN' (n : Nat) (r : List D → DEnv → Option DEnv) : MG := fun d ρ => match d with
  | .tup ds => if ds.length = n then r ds ρ else none
  | _ => none
theorem vg_tup {es : List Expr} {pos : Pos} {k : Nat} {r : List D → DEnv → Option DEnv} (n : Nat) (hc : X.calm = true) (h : VGs X md P es r) (hn : (assignEach es X.env).length = n := by rfl) (hst : (assignEach es X.env).findIdx? (·.1) = none := by rfl) : VG X md P (.Tuple es k pos) (mgN' n r) :=
  (pg_tup hc h hn hst).imp fun v σ H Q q => by
    obtain ⟨ρ, O, F, as, d, ρ', r0, s, hv, e, k⟩ := q
    cases d with
    | tup ds =>
      obtain ⟨a, xs, rfl, h1, h2⟩ := hv.unT
      unfold mgN' at e
      dsimp only at e
      split at e
      · rename_i hl
        exact ⟨a, xs, rfl, Same.seqT r0.fh h1, by rw [h2.length]; exact hl, ρ, O, F, as, ds, ρ', r0, s, h2, e, k⟩
      · cases e
    | _ => cases e
def msAsg (m : M D) (g : MG) : MS := fun ρ O => match m ρ O with
  | .ok d O' => match g d ρ with
    | some ρ' => .nx ρ' O'
    | none => .no
  | .ex x O' => .ex x O'
  | .no => .no
theorem vs_asg {tg e : Expr} {pos : Pos} {m : M D} {g : MG} (h : VE X md P e m) (hg : VG X md P tg g) (hs : swapsWithSole [tg] e pos.line X.env = pure false := by rfl) (hw : swappedStores [tg] e X.env = pure none := by rfl)
    (h1 : (assignEach [tg] X.env).map (·.2) = [assign tg X.env] := by rfl) : VS X md P R (.Assign [tg] e pos) (msAsg m g) := (ps_asg h hg hs hw h1).imp fun D σ H q => by
  obtain ⟨ρ, O, F, as, r, s, k⟩ := q
  unfold msAsg at k
  cases e : m ρ O with
  | ok d O' =>
    rw [e] at k
    dsimp only at k
    cases e2 : g d ρ with
    | none => rw [e2] at k; exact False.elim k
    | some ρ' =>
      rw [e2] at k
      refine ⟨ρ, _, F, as, _, _, r, s, e, fun v H1 F1 as1 g1 r1 hv => ?_⟩
      exact ⟨ρ, O', F1, as1, d, ρ', r1, s.step g1, hv, e2, fun σ' s' => k σ' H1 F1 as1 g1.toS r1 s'⟩
  | ex x O' => rw [e] at k; exact False.elim k
  | no => rw [e] at k; exact False.elim k
end
end L2
namespace L2
open PySem PySem.Spec PyProof.Rows
structure JOk (K : Frag) (mg : Str → Option Value) (P : Pt) (J : It) (ds : List D) (H F : Hp) (as : List Addr) : Prop where
  turn : ∀ (i : Nat) (d : D) (H2 F2 : Hp) (as2 : List Addr), GrS P H F as H2 F2 as2 → (∃ O, RlO K mg O H2 F2 as2) → ds[i]? = some d → J.go i H2 ∧ ∀ x H3, J.yld i H2 x H3 → ∃ F3, Gr H2 F2 as2 H3 F3 as2 ∧ (∀ O, RlO K mg O H2 F2 as2 → RlO K mg O H3 F3 as2) ∧ Rp K F3 as2 x d
  stop : ∀ (H2 F2 : Hp) (as2 : List Addr), GrS P H F as H2 F2 as2 → (∃ O, RlO K mg O H2 F2 as2) → J.stop ds.length H2
structure JOkE (K : Frag) (mg : Str → Option Value) (J : It) (ds : List D) (H F : Hp) (as : List Addr) : Prop where
  turn : ∀ (i : Nat) (d : D) (H2 F2 : Hp) (as2 : List Addr), Gr H F as H2 F2 as2 → (∃ O, RlO K mg O H2 F2 as2) → ds[i]? = some d → J.go i H2 ∧ ∀ x H3, J.yld i H2 x H3 → ∃ F3, Gr H2 F2 as2 H3 F3 as2 ∧ (∀ O, RlO K mg O H2 F2 as2 → RlO K mg O H3 F3 as2) ∧ Rp K F3 as2 x d
  stop : ∀ (H2 F2 : Hp) (as2 : List Addr), Gr H F as H2 F2 as2 → (∃ O, RlO K mg O H2 F2 as2) → J.stop ds.length H2
theorem JOk.e {K : Frag} {mg : Str → Option Value} {P : Pt} {J : It} {ds : List D} {H F : Hp} {as : List Addr} (h : JOk K mg P J ds H F as) : JOkE K mg J ds H F as := ⟨fun i d H2 F2 as2 g => h.turn i d H2 F2 as2 g.toS, fun H2 F2 as2 g => h.stop H2 F2 as2 g.toS⟩
def tMIc (K : Frag) (mg : Str → Option Value) (md : List Md) (P : Pt) (m : M (List D)) : TI := fun σ H Q => ∃ ρ O F as ds O', RlO K mg O H F as ∧ SlO K md P ρ σ H F as ∧ m ρ O = .ok ds O' ∧
  ∀ J H' F' as', Gr H F as H' F' as' → RlO K mg O' H' F' as' → JOkE K mg J ds H' F' as' → Q J H'
def VIc (X : Cx) (md : List Md) (P : Pt) (tg iter : Expr) (m : M (List D)) : Prop := PI X tg iter (tMIc X.K X.mg md P m)
def tMI (K : Frag) (mg : Str → Option Value) (md : List Md) (P : Pt) (m : M (List D)) : TI := fun σ H Q => ∃ ρ O F as ds O', RlO K mg O H F as ∧ SlO K md P ρ σ H F as ∧ m ρ O = .ok ds O' ∧
  ∀ J H' F' as', Gr H F as H' F' as' → RlO K mg O' H' F' as' → JOk K mg P J ds H' F' as' → Q J H'
def VI (X : Cx) (md : List Md) (P : Pt) (tg iter : Expr) (m : M (List D)) : Prop := PI X tg iter (tMI X.K X.mg md P m)
section
variable {X : Cx} {md : List Md} {P : Pt} {R : RR}
theorem PI.imp {tg e : Expr} {t t' : TI} (h : PI X tg e t) (k : ∀ σ H Q, t' σ H Q → t σ H Q) : PI X tg e t' := fun pins s σ H Q I q => h pins s σ H Q I (k σ H Q q)
theorem vic_vi {tg e : Expr} {m : M (List D)} (h : VI X md P tg e m) : VIc X md P tg e m := h.imp fun σ H Q q => by
  obtain ⟨ρ, O, F, as, ds, O', r, s, e, k⟩ := q
  exact ⟨ρ, O, F, as, ds, O', r, s, e, fun J H' F' as' g r' hJ => k J H' F' as' g r' hJ.e⟩
def floop (g : MG) (b : MS) : List D → MS
  | [], ρ, O => .nx ρ O
  | d :: ds, ρ, O => match g d ρ with
    | none => .no
    | some ρ1 => match b ρ1 O with
      | .nx ρ2 O2 => floop g b ds ρ2 O2
      | .ct ρ2 O2 => floop g b ds ρ2 O2
      | .bk ρ2 O2 => .nx ρ2 O2
      | r => r
def msFor (m : M (List D)) (g : MG) (b : MS) : MS := fun ρ O => match m ρ O with
  | .ok ds O' => floop g b ds ρ O'
  | .ex x O' => .ex x O'
  | .no => .no
theorem for_go {K : Frag} {mg : Str → Option Value} {m : M (List D)} {g : MG} {b : MS} {D : Ends} {σ : St} {H : Hp} (q : tMS K mg md P R (msFor m g b) D σ H) : tFor (tMI K mg md P m) (tMG K mg md P g) (tMS K mg md P R b) D σ H := by
  obtain ⟨ρ, O, F, as, r, s, k⟩ := q
  unfold msFor at k
  cases e : m ρ O with
  | ex x O' => rw [e] at k; exact False.elim k
  | no => rw [e] at k; exact False.elim k
  | ok ds O1 =>
    rw [e] at k
    dsimp only at k
    refine ⟨ρ, _, F, as, _, _, r, s, e, fun J H1 F1 as1 g1 r1 hJ => ?_⟩
    have k1 := tMS_gr (R := R) g1.toS k
    refine ⟨fun i m σ' H' => m = ds.length - i ∧ i ≤ ds.length ∧ ∃ ρ' O' F' as', GrS P H1 F1 as1 H' F' as' ∧ RlO K mg O' H' F' as' ∧ SlO K md P ρ' σ' H' F' as' ∧ FlOk K mg md P R D H' F' as' (floop g b (ds.drop i) ρ' O'), ⟨ds.length, by simp, Nat.zero_le _, ρ, O1, F1, as1, GrS.refl, r1, s.step g1, by rw [List.drop_zero]; exact k1⟩, ?_⟩
    rintro i n σ' H' ⟨rfl, hi, ρ', O', F', as', g', r', s', k'⟩
    by_cases hlt : i < ds.length
    · have hd := List.getElem?_eq_getElem hlt
      obtain ⟨go, yl⟩ := hJ.turn i _ H' F' as' g' ⟨O', r'⟩ hd
      rw [List.drop_eq_getElem_cons hlt] at k'
      refine .inr ⟨go, fun σ2 H2 => ∃ ρ2 O2 F2 as2, GrS P H1 F1 as1 H2 F2 as2 ∧ RlO K mg O2 H2 F2 as2 ∧ SlO K md P ρ2 σ2 H2 F2 as2 ∧ FlOk K mg md P R D H2 F2 as2 (floop g b (ds.drop (i + 1)) ρ2 O2), fun σ2 H2 h2 => ⟨ds.length - (i + 1), by omega, rfl, hlt, h2⟩, fun x H3 y => ?_⟩
      obtain ⟨F3, g3, r3, hx⟩ := yl x H3 y
      have r3' := r3 O' r'
      unfold floop at k'
      cases eg : g ds[i] ρ' with
      | none => rw [eg] at k'; exact False.elim k'
      | some ρ1 =>
        rw [eg] at k'
        dsimp only at k'
        refine ⟨ρ', O', F3, as', ds[i], ρ1, r3', s'.step g3, hx, eg, fun σ4 s4 => ?_⟩
        refine ⟨ρ1, O', F3, as', r3', s4, ?_⟩
        have g4 : GrS P H1 F1 as1 H3 F3 as' := g'.trans g3.toS
        have keep := fun {f} => tMS_gr (K := K) (mg := mg) (md := md) (R := R) (D := D) (f := f) (g3.toS (P := P))
        cases eb : b ρ1 O' with
        | nx ρ2 O2 =>
          rw [eb] at k'
          exact fun σ2 H2 F2 as2 g2 r2 s2 => ⟨ρ2, O2, F2, as2, g4.trans g2, r2, s2, tMS_gr g2 (keep k')⟩
        | ct ρ2 O2 =>
          rw [eb] at k'
          exact fun σ2 H2 F2 as2 g2 r2 s2 => ⟨ρ2, O2, F2, as2, g4.trans g2, r2, s2, tMS_gr g2 (keep k')⟩
        | bk ρ2 O2 =>
          rw [eb] at k'
          exact fun σ2 H2 F2 as2 g2 r2 s2 => k' σ2 H2 F2 as2 (g3.toS.trans g2) r2 s2
        | rt d O2 =>
          rw [eb] at k'
          exact fun v H2 F2 as2 g2 r2 s2 => k' v H2 F2 as2 (g3.toS.trans g2) r2 s2
        | ex _ _ => rw [eb] at k'; exact False.elim k'
        | no => rw [eb] at k'; exact False.elim k'
    · have hi' : i = ds.length := by omega
      subst hi'
      refine .inl ⟨hJ.stop H' F' as' g' ⟨O', r'⟩, ?_⟩
      rw [List.drop_length] at k'
      exact k' σ' H' F' as' GrS.refl r' s'
theorem vs_for {tg iter : Expr} {body : List Stmt} {pos : Pos} {m : M (List D)} {g : MG} {b : MS} (hc : X.calm = true) (hi : VI X md P tg iter m) (hg : VG X md P tg g) (hb : VSs X md P R body b) (hp : PassesOwn (model X.prog X.w) X.A X.env X.xe := by exact PassesOwn.never)
    (hs : ∀ x, foldedSetIterable iter X.env x = pure x := by intro _; rfl) : VS X md P R (.For tg iter body [] pos) (msFor m g b) := (ps_for hp hc hi hg hb hs).imp fun _ _ _ q => for_go q
def cloop (g : MG) (t : M Bool) (m : M D) : List D → DEnv → Store → List D → Res (List D)
  | [], ρ, O, acc => .ok acc O
  | d :: ds, ρ, O, acc => match g d ρ with
    | none => .no
    | some ρ1 => match t ρ1 O with
      | .ok true O1 => match m ρ1 O1 with
        | .ok y O2 => cloop g t m ds ρ1 O2 (acc ++ [y])
        | .ex x O' => .ex x O'
        | .no => .no
      | .ok false O1 => cloop g t m ds ρ1 O1 acc
      | .ex x O' => .ex x O'
      | .no => .no
def cEnv (own : Nat) (cap : List Nat) (ρ : DEnv) : DEnv := List.replicate own none ++ cap.map fun j => (ρ[j]?).join
def mComp (m : M (List D)) (own : Nat) (cap : List Nat) (g : MG) (t : M Bool) (e : M D) : M D := fun ρ O => (m ρ O).bind fun ds O1 => if ds.length ≤ 1000000 then (cloop g t e ds (cEnv own cap ρ) O1 []).bind fun ys O2 => .ok (.lst ys) O2 else .no
def mYes : M Bool := fun _ O => .ok true O
def cMd (own : Nat) (cap : List Nat) (md : List Md) : List Md := List.replicate own .v ++ cap.map fun j => match md[j]? with
  | some .v => .v
  | _ => .s
theorem comp_slots {K : Frag} {ρ : DEnv} {σ : St} {H F : Hp} {as : List Addr} {own : List Str} {cap : List Nat} (s : SlO K md P ρ σ H F as) (hcap : ∀ j ∈ cap, j < md.length) : SlO K (cMd own.length cap md) (Pt.all H) (cEnv own.length cap ρ) (compSt own cap σ) H F as := by
  refine ⟨by simp [compSt, cMd], by simp [cEnv, cMd], fun a h => h, fun i m d e1 e2 => ?_, fun i j a ds es h1 => ?_, fun _ z => nomatch z⟩
  · unfold cEnv at e2
    unfold cMd at e1
    unfold compSt
    by_cases hi : i < own.length
    · rw [List.getElem?_append_left (by simpa using hi), List.getElem?_replicate_of_lt hi] at e2
      cases e2
    · have hi' : own.length ≤ i := Nat.le_of_not_lt hi
      rw [List.getElem?_append_right (by simpa using hi'), List.length_replicate, List.getElem?_map] at e2 e1
      rw [List.getElem?_append_right (by simpa using hi'), List.length_map, List.getElem?_map]
      cases q : cap[i - own.length]? with
      | none => rw [q] at e2; cases e2
      | some j =>
        rw [q] at e1 e2
        simp only [Option.map_some, Option.some.injEq] at e1 e2 ⊢
        cases q2 : ρ[j]? with
        | none => rw [q2] at e2; cases e2
        | some o =>
          rw [q2] at e2
          have e2' : o = some d := e2
          subst e2'
          obtain ⟨m0, v, h1, h2, h3⟩ := s.get q2
          rw [h1] at e1
          refine ⟨v, by rw [h2]; rfl, ?_⟩
          cases m0 with
          | v => dsimp only at e1; subst e1; exact h3
          | s =>
            dsimp only at e1; subst e1
            rcases h3 with h3 | ⟨a, xs, ds, e1, e2, e3, e4, e5, e6⟩
            · exact .inl h3
            · exact .inr ⟨a, xs, ds, e1, e2, e3, e4, (show H a ≠ none by rw [e3]; exact fun z => nomatch z), e6⟩
          | o =>
            dsimp only at e1; subst e1
            rcases h3 with ⟨_, h3⟩ | ⟨a, xs, ds, e1, e2, e3, e0, e4, e5, e6⟩
            · exact .inl h3
            · exact .inr ⟨a, xs, ds, e1, e2, e3, e4, (show H a ≠ none by rw [e3]; exact fun z => nomatch z), e6⟩
  · exfalso
    unfold cMd at h1
    by_cases hi : i < own.length
    · rw [List.getElem?_append_left (by simpa using hi), List.getElem?_replicate_of_lt hi] at h1
      cases h1
    · have hi' : own.length ≤ i := Nat.le_of_not_lt hi
      rw [List.getElem?_append_right (by simpa using hi'), List.length_replicate, List.getElem?_map] at h1
      cases q : cap[i - own.length]? with
      | none => rw [q] at h1; cases h1
      | some j =>
        rw [q] at h1
        simp only [Option.map_some, Option.some.injEq] at h1
        split at h1 <;> cases h1
end
end L2
namespace L2
open PySem PySem.Spec PyProof.Rows
section
variable {X : Cx} {md : List Md} {P : Pt} {R : RR}
def xM (K : Frag) (mg : Str → Option Value) (md : List Md) (R : RR) (m : M D) : TE := fun σ H Q => ∃ P, tM K mg md P R m σ H Q
def xMT (K : Frag) (mg : Str → Option Value) (md : List Md) (m : M Bool) : TT := fun σ H Q => ∃ P, tMT K mg md P m σ H Q
def xMG (K : Frag) (mg : Str → Option Value) (md : List Md) (g : MG) : TG := fun v σ H Q => ∃ P, tMG K mg md P g v σ H Q
theorem xm {e : Expr} {m : M D} (h : ∀ P, PE X e (tM X.K X.mg md P R m)) : PE X e (xM X.K X.mg md R m) := fun pins s σ H Q I ⟨P, q⟩ => h P pins s σ H Q I q
theorem xmg {e : Expr} {g : MG} (h : ∀ P, VG X md P e g) : PG X e (xMG X.K X.mg md g) := fun pins s σ H v u Q I r ⟨P, q⟩ => h P pins s σ H v u Q I r q
theorem xmt {e : List Expr} {m : M Bool} (h : ∀ P, PIfs X e (tMT X.K X.mg md P m)) : PIfs X e (xMT X.K X.mg md m) := fun pins s σ H Q I ⟨P, q⟩ => h P pins s σ H Q I q
def VIf (X : Cx) (md : List Md) (P : Pt) (e : List Expr) (m : M Bool) : Prop := PIfs X e (tMT X.K X.mg md P m)
theorem vif_nil : VIf X md P [] mYes := fun pins s σ H Q I q => by
  obtain ⟨ρ, O, F, as, d, O', r, s, e, k⟩ := q
  cases e
  exact pifs_nil pins _ σ H Q I (k H F as Gr.refl r)
theorem comp_go {K : Frag} {mg : Str → Option Value} {m : M (List D)} {own : List Str} {cap : List Nat} {g : MG} {t : M Bool} {e : M D} (hcap : ∀ j ∈ cap, j < md.length) {σ : St} {H : Hp} {Q : VK} (q : tM K mg md P (rO K) (mComp m own.length cap g t e) σ H Q) :
    tComp (tMIc K mg md P m) own cap (xMG K mg (cMd own.length cap md) g) (xMT K mg (cMd own.length cap md) t) (xM K mg (cMd own.length cap md) (rV K) e) σ H Q := by
  obtain ⟨ρ, O, F, as, d, OZ, r, s, eq, k⟩ := q
  obtain ⟨ds, O1, e1, eq⟩ := Res.bind_ok eq
  split at eq
  · rename_i hz
    obtain ⟨yf, O2, e2, eq⟩ := Res.bind_ok eq
    cases eq
    refine ⟨ρ, _, F, as, _, _, r, s, e1, fun J H1 F1 as1 g1 r1 hJ => ?_⟩
    have sb := comp_slots (own := own) (s.step g1) hcap
    refine ⟨fun i n ys σ' H' => n = ds.length - i ∧ i ≤ ds.length ∧ ∃ ρ' O' F' as' acc, Gr H1 F1 as1 H' F' as' ∧ RlO K mg O' H' F' as' ∧ SlO K (cMd own.length cap md) (Pt.all H1) ρ' σ' H' F' as' ∧ Rps K F' as' ys acc ∧ acc.length ≤ i ∧
      cloop g t e (ds.drop i) ρ' O' acc = .ok yf OZ, ⟨ds.length, by simp, Nat.zero_le _, cEnv own.length cap ρ, O1, F1, as1, [], Gr.refl, r1, sb, Rps.nil, Nat.le_refl _, by rw [List.drop_zero]; exact e2⟩, ?_⟩
    rintro i n ys σ' H' ⟨rfl, hi, ρ', O', F', as', acc, g', r', s', hy, hl, ec⟩
    by_cases hlt : i < ds.length
    · obtain ⟨go, yl⟩ := hJ.turn i _ H' F' as' g' ⟨O', r'⟩ (List.getElem?_eq_getElem hlt)
      refine .inr ⟨go, ?_, fun ys σ2 H2 => ∃ ρ2 O3 F2 as2 acc2, Gr H1 F1 as1 H2 F2 as2 ∧ RlO K mg O3 H2 F2 as2 ∧ SlO K (cMd own.length cap md) (Pt.all H1) ρ2 σ2 H2 F2 as2 ∧ Rps K F2 as2 ys acc2 ∧ acc2.length ≤ i + 1 ∧
        cloop g t e (ds.drop (i + 1)) ρ2 O3 acc2 = .ok yf OZ, fun ys2 σ2 H2 h2 => ⟨ds.length - (i + 1), by omega, rfl, hlt, h2⟩, fun x H3 y => ?_⟩
      · rw [hy.length]
        have := size6 hz
        omega
      obtain ⟨F3, g3, r3, hx⟩ := yl x H3 y
      have r3' := r3 O' r'
      have g13 := g'.trans g3
      rw [List.drop_eq_getElem_cons hlt] at ec
      unfold cloop at ec
      cases eg : g ds[i] ρ' with
      | none => rw [eg] at ec; cases ec
      | some ρ1 =>
        rw [eg] at ec
        dsimp only at ec
        refine ⟨_, ρ', O', F3, as', ds[i], ρ1, r3', s'.step g3, hx, eg, fun σ4 s4 => ?_⟩
        cases et : t ρ1 O' with
        | ex _ _ => rw [et] at ec; cases ec
        | no => rw [et] at ec; cases ec
        | ok c O4 =>
          rw [et] at ec
          refine ⟨_, ρ1, O', F3, as', c, O4, r3', s4, et, fun H5 F5 as5 g5 r5 => ?_⟩
          cases c with
          | false =>
            rw [if_neg Bool.false_ne_true]
            exact ⟨ρ1, O4, F5, as5, acc, g13.trans g5, r5, s4.step g5, (hy.gr g3).gr g5, by omega, ec⟩
          | true =>
            rw [if_pos rfl]
            dsimp only at ec
            cases em : e ρ1 O4 with
            | ex _ _ => rw [em] at ec; cases ec
            | no => rw [em] at ec; cases ec
            | ok yd O6 =>
              rw [em] at ec
              refine ⟨_, ρ1, O4, F5, as5, yd, O6, r5, s4.step g5, em, fun vy H7 F7 as7 g7 r7 hvy => ?_⟩
              exact ⟨ρ1, O6, F7, as7, acc ++ [yd], (g13.trans g5).trans g7, r7, (s4.step g5).step g7, (((hy.gr g3).gr g5).gr g7).snoc hvy, by rw [List.length_append]; show acc.length + 1 ≤ i + 1; omega, ec⟩
    · have hi' : i = ds.length := by omega
      subst hi'
      rw [List.drop_length] at ec
      cases ec
      refine .inl ⟨hJ.stop H' F' as' g' ⟨_, r'⟩, ?_, fun p hp => ?_⟩
      · rw [hy.length]
        exact Nat.le_trans hl (size6 hz)
      · have hF : F' p = none := by
          cases q : F' p with
          | none => rfl
          | some o => rw [r'.fh p o q] at hp; cases hp
        exact k _ _ F' as' ((g1.trans g').trans (Gr.lay hp)) (r'.lay hp) (.inr ⟨p, ys, yf, rfl, rfl, upd_same, hF, fun z => r'.all z hp, (g1.trans g').dm p hp, hy⟩)
  · cases eq
variable {tg iter elt : Expr} {ifs : List Expr} {scope : Scope} {pos : Pos} {mi : M (List D)} {g : MG} {t : M Bool} {e : M D}
theorem oe_comp (sc0 : Scope) (N0 own : List Str) (cap : List Nat) (hc : X.calm = true) (hi : VIc X md P tg iter mi)
    (hg : ∀ C s H ex P, VG (cxComp X scope C (compN N0 own cap) s H ex) (cMd own.length cap md) P tg g) (ht : ∀ C s H ex P, VIf (cxComp X scope C (compN N0 own cap) s H ex) (cMd own.length cap md) P ifs t)
    (he : ∀ C s H ex P, VE (cxComp X scope C (compN N0 own cap) s H ex) (cMd own.length cap md) P elt e)
    (hcap : ∀ j ∈ cap, j < md.length := by decide) (hsc : X.env.scope = sc0 := by rfl) (hN0 : X.N = N0 := by rfl) (ok : compOk sc0 N0 scope own cap = true := by decide +kernel) (hs : ∀ x, foldedSetIterable iter X.env x = pure x := by intro _; rfl) :
    OE X md P (.ListComp elt [⟨tg, iter, ifs, 0⟩] scope pos) (mComp mi own.length cap g t e) :=
  (pe_comp sc0 N0 own cap hc hi (fun C s H ex => xmg (hg C s H ex)) (fun C s H ex => xmt (ht C s H ex)) (fun C s H ex => xm (he C s H ex)) hsc hN0 ok hs).imp fun _ _ _ q => comp_go hcap q
theorem vs_setCV {i : Nat} {x : Str} {pos' spos : Pos} (sc0 : Scope) (N0 own : List Str) (cap : List Nat) (hN : X.N.Nodup) (hx : X.N[i]? = some x) (hl : Loc X.env.scope x) (hc : X.calm = true) (hi : VIc X md P tg iter mi)
    (hg : ∀ C s H ex P, VG (cxComp X scope C (compN N0 own cap) s H ex) (cMd own.length cap md) P tg g) (ht : ∀ C s H ex P, VIf (cxComp X scope C (compN N0 own cap) s H ex) (cMd own.length cap md) P ifs t)
    (he : ∀ C s H ex P, VE (cxComp X scope C (compN N0 own cap) s H ex) (cMd own.length cap md) P elt e)
    (hm : md[i]? = some .v := by rfl) (hcap : ∀ j ∈ cap, j < md.length := by decide) (hsw : swapsWith (.ListComp elt [⟨tg, iter, ifs, 0⟩] scope pos) (some (.Name x pos')) spos.line X.env = pure true := by rfl)
    (hf : X.fn x = true ∨ X.env.scope.names.lookup x = some .local := by first | exact .inl rfl | exact .inr rfl | assumption)
    (hsc : X.env.scope = sc0 := by rfl) (hN0 : X.N = N0 := by rfl) (ok : compOk sc0 N0 scope own cap = true := by decide +kernel) (hs : ∀ x, foldedSetIterable iter X.env x = pure x := by intro _; rfl) :
    VS X md P R (.Assign [.Name x pos'] (.ListComp elt [⟨tg, iter, ifs, 0⟩] scope pos) spos) (msSet i (mComp mi own.length cap g t e)) :=
  (ps_setC (i := i) sc0 N0 own cap hN hx hl hc hi (fun C s H ex => xmg (hg C s H ex)) (fun C s H ex => xmt (ht C s H ex)) (fun C s H ex => xm (he C s H ex)) hsw hf hsc hN0 ok hs).imp fun D σ H q =>
    setV_go hm (fun σ H Q z => comp_go hcap (by
      obtain ⟨ρ, O, F, as, d, O', r, s, e, k⟩ := z
      refine ⟨ρ, _, F, as, _, _, r, s, e, fun v H' F' as' g r' hv => ?_⟩
      rcases hv with ⟨_, hv⟩ | ⟨a, xs, ds, rfl, rfl, e3, e4, e5, e6, e7⟩
      · exact k v H' F' as' g r' hv
      · have ff : Same F' (upd F' a (.lst xs)) := fun b u q => by rw [upd_ne (ne_of_none q e4)]; exact q
        exact k _ H' (upd F' a (.lst xs)) as' (g.frz e6 e4) (r'.frz e3 e4 e5 rfl) (Rp.mkL (.inl (.inl upd_same)) (Rps.mono ff (fun _ _ z => z) _ e7)))) q
theorem vs_setCO {i : Nat} {x : Str} {pos' spos : Pos} (sc0 : Scope) (N0 own : List Str) (cap : List Nat) (hN : X.N.Nodup) (hx : X.N[i]? = some x) (hl : Loc X.env.scope x) (hc : X.calm = true) (hi : VIc X md P tg iter mi)
    (hg : ∀ C s H ex P, VG (cxComp X scope C (compN N0 own cap) s H ex) (cMd own.length cap md) P tg g) (ht : ∀ C s H ex P, VIf (cxComp X scope C (compN N0 own cap) s H ex) (cMd own.length cap md) P ifs t)
    (he : ∀ C s H ex P, VE (cxComp X scope C (compN N0 own cap) s H ex) (cMd own.length cap md) P elt e)
    (hm : md[i]? = some .o := by rfl) (hcap : ∀ j ∈ cap, j < md.length := by decide) (hsw : swapsWith (.ListComp elt [⟨tg, iter, ifs, 0⟩] scope pos) (some (.Name x pos')) spos.line X.env = pure true := by rfl)
    (hf : X.fn x = true ∨ X.env.scope.names.lookup x = some .local := by first | exact .inl rfl | exact .inr rfl | assumption)
    (hsc : X.env.scope = sc0 := by rfl) (hN0 : X.N = N0 := by rfl) (ok : compOk sc0 N0 scope own cap = true := by decide +kernel) (hs : ∀ x, foldedSetIterable iter X.env x = pure x := by intro _; rfl) :
    VS X md P R (.Assign [.Name x pos'] (.ListComp elt [⟨tg, iter, ifs, 0⟩] scope pos) spos) (msSet i (mComp mi own.length cap g t e)) :=
  (ps_setC (i := i) sc0 N0 own cap hN hx hl hc hi (fun C s H ex => xmg (hg C s H ex)) (fun C s H ex => xmt (ht C s H ex)) (fun C s H ex => xm (he C s H ex)) hsw hf hsc hN0 ok hs).imp fun D σ H q =>
    setO_go hm (fun σ H Q z => comp_go hcap z) q
end
def vSp (K : Frag) (mg : Str → Option Value) (pm : List Md) (R : RR) (c : List D → Store → Res D) : Sp := fun vs H Q _ =>
  ∃ ds O F as d O', RlO K mg O H F as ∧ ArgsR K H F as pm vs ds ∧ c ds O = .ok d O' ∧ ∀ v H' F' as', Gr H F as H' F' as' → RlO K mg O' H' F' as' → R (fun a => H a = none) H' F' as' v d → Q v H'
def mFun (n : Nat) (b : MS) : List D → Store → Res D := fun ds O => match b (ds.map some ++ List.replicate (n - ds.length) none) O with
  | .rt d O' => .ok d O'
  | .nx _ O' => .ok .non O'
  | .ex x O' => .ex x O'
  | _ => .no
theorem ArgsR.len {K : Frag} {H F : Hp} {as : List Addr} : ∀ {ms : List Md} {vs : List V} {ds : List D}, ArgsR K H F as ms vs ds → vs.length = ms.length ∧ ds.length = ms.length
  | [], [], [], _ => ⟨rfl, rfl⟩
  | m :: ms, v :: vs, d :: ds, h => by
    have := ArgsR.len h.2
    simp [this.1, this.2]
  | [], [], _ :: _, h => h.elim
  | [], _ :: _, [], h => h.elim
  | [], _ :: _, _ :: _, h => h.elim
  | _ :: _, [], [], h => h.elim
  | _ :: _, [], _ :: _, h => h.elim
  | _ :: _, _ :: _, [], h => h.elim
theorem ArgsR.get {K : Frag} {H F : Hp} {as : List Addr} : ∀ {ms : List Md} {vs : List V} {ds : List D} {i : Nat} {m : Md} {d : D}, ArgsR K H F as ms vs ds → ms[i]? = some m → ds[i]? = some d → ∃ v, vs[i]? = some v ∧ rA K m (fun _ => True) H F as v d
  | m :: ms, v :: vs, d :: ds, 0, m', d', h, e1, e2 => by
    simp at e1 e2
    subst e1 e2
    exact ⟨v, rfl, h.1⟩
  | m :: ms, v :: vs, d :: ds, i + 1, m', d', h, e1, e2 => by
    obtain ⟨v', h1, h2⟩ := ArgsR.get (i := i) (m := m') (d := d') h.2 (by simpa using e1) (by simpa using e2)
    exact ⟨v', by simpa using h1, h2⟩
  | [], [], [], _, _, _, _, e1, _ => by simp at e1
  | [], [], _ :: _, _, _, _, h, _, _ => h.elim
  | [], _ :: _, [], _, _, _, h, _, _ => h.elim
  | [], _ :: _, _ :: _, _, _, _, h, _, _ => h.elim
  | _ :: _, [], [], _, _, _, h, _, _ => h.elim
  | _ :: _, [], _ :: _, _, _, _, h, _, _ => h.elim
  | _ :: _, _ :: _, [], _, _, _, h, _, _ => h.elim
theorem start_slots {K : Frag} {H F : Hp} {as : List Addr} {N : List Str} {pm lm : List Md} {vs : List V} {ds : List D} (h : ArgsR K H F as pm vs ds) (hl : (pm ++ lm).length = N.length) (hp : ∀ m ∈ pm, m ≠ .o) :
    SlO K (pm ++ lm) (Pt.all H) (ds.map some ++ List.replicate (N.length - ds.length) none) (start N vs) H F as := by
  obtain ⟨h1, h2⟩ := h.len
  rw [List.length_append] at hl
  have vsl : vs.length ≤ N.length := by omega
  have no : ∀ i a, (ds.map some ++ List.replicate (N.length - ds.length) none)[i]? = some (some a) → i < ds.length := fun i a e => by
    by_cases hi : i < ds.length
    · exact hi
    · rw [List.getElem?_append_right (by simpa using hi), List.getElem?_replicate] at e
      split at e <;> cases e
  refine ⟨by unfold start; simp; omega, by simp; omega, fun a z => z, fun i m d e1 e2 => ?_, fun i j a es fs e1 e2 e3 => ?_, fun _ z => nomatch z⟩
  · have hi := no i d e2
    rw [List.getElem?_append_left (by simpa using hi), List.getElem?_map] at e2
    rw [List.getElem?_append_left (by omega)] at e1
    cases q : ds[i]? with
    | none => rw [q] at e2; cases e2
    | some d' =>
      rw [q] at e2
      cases e2
      obtain ⟨v, h3, h4⟩ := h.get e1 q
      refine ⟨v, ?_, ?_⟩
      · unfold start
        rw [List.getElem?_append_left (by simp; omega), List.getElem?_map, h3]
        rfl
      · cases m with
        | v => exact h4
        | s =>
          rcases h4 with h4 | ⟨a, xs, es, z1, z2, z3, z4, z5⟩
          · exact .inl h4
          · exact .inr ⟨a, xs, es, z1, z2, z3, z4, (show H a ≠ none by rw [z3]; exact fun z => nomatch z), z5⟩
        | o => exact absurd rfl (hp .o (List.mem_of_getElem? e1))
  · have hi := no i _ e3
    rw [List.getElem?_append_left (by omega)] at e1
    exact absurd rfl (hp .o (List.mem_of_getElem? e1))
section
variable {Pr : Program} {w : World} {K : Frag} {mg : Str → Option Value} {base : Heap}
theorem vdef {x : Str} {st : Stmt} {N ps : List Str} {k : Nat} (Df : Def K mg x st) (S : FnScope N ps (defScope st))
    (hb : ∀ (kV doc pm : Value) (an : Option Addr) (cdv ct : Value) (us : List Value), us.length = ps.length → bindArgs (PySem.W.fnOf x x (defArgs st) (defBody st) (defScope st) .none kV doc pm an cdv ct) ⟨us, []⟩ = pure (ps.zip us))
    (pm lm : List Md) {R : RR} {b : MS} (hR : RRok R) (hR0 : ∀ N H F as, R N H F as .non .non) (hpl : pm.length = ps.length := by rfl) (hl : (pm ++ lm).length = N.length := by rfl) (hp : ∀ m ∈ pm, m ≠ .o := by decide)
    (body : ∀ (f : Addr) (cdv : Value) (A : Around) (outer : List Env) (s : Shared) (H : Hp) (E : XK), Room k (A.deeper (envOfC x (defScope st) s.heap.objs.size f cdv)) → ∀ P, VSs ((cxOf CX0 Pr w K mg base N x (defScope st) f cdv A outer s H E).nox) (pm ++ lm) P R (defBody st) b) :
    Can Pr w K mg base x ps (k + 1) (vSp K mg pm R (mFun N.length b)) := by
  refine Df.can (k := k) S hb (fun vs H Q E h => ?_) (fun f cdv A outer s H vs Q E hr h => ?_)
  · obtain ⟨ds, O, F, as, d, O', r, a, _⟩ := h
    rw [a.len.1, hpl]
  · obtain ⟨ds, O, F, as, d, O', r, a, e, q⟩ := h
    refine ⟨_, body f cdv A outer s H E hr (Pt.all H), ?_⟩
    refine ⟨_, O, F, as, r, start_slots a hl hp, ?_⟩
    unfold mFun at e
    cases eb : b (ds.map some ++ List.replicate (N.length - ds.length) none) O with
    | rt d' O2 =>
      rw [eb] at e
      cases e
      exact fun v H' F' as' g r' hv => q v H' F' as' g.gr r' (hR _ _ _ _ _ _ _ (fun c hc => Classical.not_not.mp hc) hv)
    | nx ρ O2 =>
      rw [eb] at e
      cases e
      exact fun σ' H' F' as' g r' _ => q _ H' F' as' g.gr r' (hR0 _ _ _ _)
    | bk _ _ => rw [eb] at e; cases e
    | ct _ _ => rw [eb] at e; cases e
    | ex _ _ => rw [eb] at e; cases e
    | no => rw [eb] at e; cases e
end
section
variable {X : Cx} {md : List Md} {P : Pt} {R : RR} {k : Nat} {x : Str} {ps : List Str} {p pos : Pos} {e : Expr} {es : List Expr} {pm : List Md} {c : List D → Store → Res D} {ma : M (List D)}
def mCall (c : List D → Store → Res D) (ma : M (List D)) : M D := fun ρ O => (ma ρ O).bind fun ds O1 => c ds O1
theorem call_go {K : Frag} {mg : Str → Option Value} (hR : RRok R) {E : XK} {σ : St} {H : Hp} {Q : VK} (q : tM K mg md P R (mCall c ma) σ H Q) : tCall (vSp K mg pm R c) [] E (tMA K mg md P pm ma) σ H Q := by
  obtain ⟨ρ, O, F, as, d, O', r, s, e, k⟩ := q
  obtain ⟨ds, O1, e1, e⟩ := Res.bind_ok e
  refine ⟨ρ, _, F, as, _, _, r, s, e1, fun vs H1 F1 as1 g1 r1 hv => ?_⟩
  dsimp only
  rw [List.append_nil]
  exact ⟨ds, O1, F1, as1, d, O', r1, hv, e, fun v H' F' as' g' r' hw => k v H' F' as' (g1.trans g') r' (hR _ _ _ _ _ _ _ (fun a ha => g1.dm a ha) hw)⟩
theorem xe_call (hR : RRok R) (C : Can X.prog X.w X.K X.mg X.base x ps k (vSp X.K X.mg pm R c)) (hr : Room k X.A) (ha : AE X md P pm (e :: es) ma) (hg : Gl X x := by rfl) (hdb : (x == ("__debug__" : Str)) = false := by decide)
    (he : starEach (e :: es) X.env = (false, eval e X.env) :: starEach es X.env := by exact starC rfl) (hpl : (backTo pos (starEach es X.env)).any (·.1) = false := by exact starAny rfl) : PE X (.Call (.Name x p) (e :: es) [] pos) (tM X.K X.mg md P R (mCall c ma)) :=
  (pe_can C hr ha hg hdb he hpl).imp fun _ _ _ q => call_go hR q
theorem xe_call0 (hR : RRok R) (C : Can X.prog X.w X.K X.mg X.base x ps k (vSp X.K X.mg [] R c)) (hr : Room k X.A) (hg : Gl X x := by rfl) (hdb : (x == ("__debug__" : Str)) = false := by decide) : PE X (.Call (.Name x p) [] [] pos) (tM X.K X.mg md P R (mCall c maNil)) :=
  (pe_can0 C hr hg hdb).imp fun σ H Q q => by
    have := call_go (pm := []) (E := E0) hR q
    obtain ⟨ρ, O, F, as, d, O', r, s, e1, k⟩ := this
    cases e1
    exact k [] H F as Gr.refl r trivial
end
end L2
namespace L2
open PySem PySem.Spec PyProof.Rows
section
variable {K : Frag} {mg : Str → Option Value} {H F : Hp} {as : List Addr} {O : Store} {Q : VK} {d : D} {p : Addr} {xs : List V} {ds : List D}
theorem k_val {v : V} (r : RlO K mg O H F as) (k : ∀ v' H' F', Gr H F as H' F' as → RlO K mg O H' F' as → Ow K (fun a => H a = none) H' F' as v' d → Q v' H') (hn : notL d = true) (hv : Rp K F as v d) : Q v H := k v H F Gr.refl r (.inl ⟨hn, hv⟩)
theorem RlO.frF (r : RlO K mg O H F as) (hp : H p = none) : F p = none := by
  cases q : F p with
  | none => rfl
  | some o => rw [r.fh p o q] at hp; cases hp
theorem k_lst (r : RlO K mg O H F as) (k : ∀ v' H' F', Gr H F as H' F' as → RlO K mg O H' F' as → Ow K (fun a => H a = none) H' F' as v' (.lst ds) → Q v' H') (hp : H p = none) (hs : Rps K F as xs ds) : Q (.ref p) (upd H p (.lst xs)) :=
  k _ _ F (Gr.lay hp) (r.lay hp) (.inr ⟨p, xs, ds, rfl, rfl, upd_same, r.frF hp, fun z => r.all z hp, hp, hs⟩)
theorem k_tup (r : RlO K mg O H F as) (k : ∀ v' H' F', Gr H F as H' F' as → RlO K mg O H' F' as → Ow K (fun a => H a = none) H' F' as v' (.tup ds) → Q v' H') (hp : H p = none) (hs : Rps K F as xs ds) : Q (.ref p) (upd H p (.tup xs)) := by
  have hF := r.frF hp
  have ff : Same F (upd F p (.tup xs)) := fun b u q => by rw [upd_ne (ne_of_none q hF)]; exact q
  exact k _ _ (upd F p (.tup xs)) ((Gr.lay hp).frz hp hF) ((r.lay hp).frz upd_same hF (fun z => r.all z hp) rfl) (.inl ⟨rfl, Rp.mkT (.inl upd_same) (Rps.mono ff (fun _ _ z => z) _ hs)⟩)
end
section
variable {X : Cx}
def rCatR (K : Frag) : R2 := fun x y H Q => ∃ l b xs zs, x = .ref l ∧ y = .ref b ∧ RdK K H l xs ∧ RdK K H b zs ∧ xs.length + zs.length ≤ sizeLine ∧ ∀ p, H p = none → Q (.ref p) (upd H p (.lst (xs ++ zs)))
theorem op_catR : OpR X (binaryOp .Add) (rCatR X.K) := by
  intro pins s σ H x y v u Q I rx ry h
  obtain ⟨l, b, xs, zs, rfl, rfl, hH, hB, hz, q⟩ := h
  cases rx
  cases ry
  obtain ⟨z, its, n, r, e⟩ := hH.ok I
  obtain ⟨z2, its2, n2, r2, e2⟩ := hB.ok I
  have hl := r.length
  have hl2 := r2.length
  refine PySem.P.add_list e e2 ?_ (by rw [List.size_toArray, List.size_toArray]; omega)
  have ea : its.toArray ++ its2.toArray = (its ++ its2).toArray := by simp
  rw [ea]
  exact ⟨.ref _, _, I.lnew (t' := s.toks) (r.append r2) (by rw [List.length_append]; omega), rfl, q _ I.fresh⟩
def rRepR (K : Frag) : R2 := fun x y H Q => ∃ l k xs, x = .ref l ∧ y = .int k ∧ RdK K H l xs ∧ -(2 ^ 63) ≤ k ∧ k < 2 ^ 63 ∧ xs.length * k.toNat ≤ sizeLine ∧
  ∀ p, H p = none → Q (.ref p) (upd H p (.lst (List.replicate k.toNat xs).flatten))
theorem op_repR : OpR X (binaryOp .Mult) (rRepR X.K) := by
  intro pins s σ H x y v u Q I rx ry h
  obtain ⟨l, k, xs, rfl, rfl, hH, h1, h2, hz, q⟩ := h
  cases rx
  obtain ⟨t, rfl⟩ := ry
  obtain ⟨z, its, n, r, e⟩ := hH.ok I
  have hl := r.length
  have hlen : its.toArray.size * k.toNat ≤ sizeLine := by rw [List.size_toArray, ← hl]; exact hz
  have hcap : ¬ its.toArray.size * k.toNat > (2 ^ 63 - 1) / 8 := by
    have : (sizeLine : Nat) ≤ (2 ^ 63 - 1) / 8 := by decide
    omega
  have hfit : ¬ (!Builtin.List.listFitsIndex k) = true := by
    rw [fitsIndex_both h1 h2]
    exact Bool.false_ne_true
  have hlong : ¬ Builtin.List.listTooLong (its.toArray.size * k.toNat) = true := by
    rw [notLongL hlen]
    exact Bool.false_ne_true
  have hnew : List.foldl (fun x1 x2 => x1 ++ x2) #[] (List.replicate (if its.toArray.isEmpty = true then 0 else k.toNat) its.toArray) = (List.replicate k.toNat its).flatten.toArray := by
    have f0 : ∀ m : Nat, List.foldl (fun x1 x2 => x1 ++ x2) #[] (List.replicate m its.toArray) = (List.replicate m its).flatten.toArray := fun m => by
      have := foldl_rep its m []
      rw [List.nil_append] at this
      exact this
    rw [f0]
    cases its with
    | nil => simp
    | cons a r' => rw [if_neg (by simp)]
  refine wpAny_binaryOp_repeat_ref (T := "list") (U := "int") (by decide) ⟨_, e, rfl⟩ (fun s' => typeIs_int s' k t) noFill_list_mul F.fills_int_mul F.slot_int_rmul repeat_list F.slot_int_index.lookup
    (call_meets F.slot_int_rmul (typeIs_int s k t) F.entry_int_rmul (F.args_int_rmul_2 _ _) (int___rmul___int_list k t l its.toArray n)
      ⟨e, rfl, ⟨_, e, rfl⟩, call_meets F.slot_list_mul ⟨_, e, rfl⟩ F.entry_list_mul (F.args_list_mul_2 _ _) (AutoListH.list___mul___list_int_3 l its.toArray n k t hfit hcap hlong) ⟨e, ?_⟩⟩)
  rw [hnew]
  exact ⟨.ref _, _, I.lnew (t' := s.toks) (r.rep k.toNat) (by rw [len_rep, Nat.mul_comm]; exact hz), rfl, q _ I.fresh⟩
def gAdd : D → D → Option D
  | .int i, .int j => some (.int (i + j))
  | .int i, .bl k => some (.int (i + b2i k))
  | .str a, .str b => if a.length + b.length ≤ 1000000 then some (.str (a ++ b)) else none
  | .lst a, .lst b => if a.length + b.length ≤ 1000000 then some (.lst (a ++ b)) else none
  | .tup a, .tup b => if a.length + b.length ≤ 1000000 ∧ a ≠ [] then some (.tup (a ++ b)) else none
  | _, _ => none
instance (a : List D) : Decidable (a ≠ []) := match a with
  | [] => isFalse fun h => h rfl
  | _ :: _ => isTrue fun h => nomatch h
theorem od_add : OpD X (binaryOp .Add) gAdd := by
  intro pins s σ H x y v u Q I rx ry h
  obtain ⟨O, F, as, dx, dy, d, r, hx, hy, e, k⟩ := h
  cases dx with
  | int i =>
    cases (hx.rp rfl).unI
    cases dy with
    | int j =>
      cases (hy.rp rfl).unI
      cases e
      exact op_add pins s σ H _ _ v u Q I rx ry ⟨i, j, rfl, rfl, k_val r k rfl Rp.int⟩
    | bl j =>
      cases (hy.rp rfl).unB
      cases e
      exact op_add_ib pins s σ H _ _ v u Q I rx ry ⟨i, j, rfl, rfl, k_val r k rfl Rp.int⟩
    | _ => cases e
  | str a =>
    cases (hx.rp rfl).unS
    cases dy with
    | str b =>
      cases (hy.rp rfl).unS
      simp only [gAdd] at e
      split at e
      · rename_i hz
        cases e
        refine op_add_str pins s σ H _ _ v u Q I rx ry ⟨S a, S b, rfl, rfl, by rw [S_length, S_length]; exact size6 hz, ?_⟩
        rw [S_append]
        exact k_val r k rfl Rp.str
      · cases e
    | _ => cases e
  | lst a =>
    obtain ⟨p, xs, rfl, h1, h2⟩ := hx.list r.fh
    cases dy with
    | lst b =>
      obtain ⟨p', ys, rfl, h3, h4⟩ := hy.list r.fh
      simp only [gAdd] at e
      split at e
      · rename_i hz
        cases e
        exact op_catR pins s σ H _ _ v u Q I rx ry ⟨p, p', xs, ys, rfl, rfl, h1, h3, by rw [h2.length, h4.length]; exact size6 hz, fun q hq => k_lst r k hq (Rps.append h4 h2)⟩
      · cases e
    | _ => cases e
  | tup a =>
    obtain ⟨p, xs, rfl, h1, h2⟩ := (hx.rp rfl).unT
    cases dy with
    | tup b =>
      obtain ⟨p', ys, rfl, h3, h4⟩ := (hy.rp rfl).unT
      simp only [gAdd] at e
      split at e
      · rename_i hz
        cases e
        have hxs : xs ≠ [] := fun z => hz.2 (List.eq_nil_of_length_eq_zero (by rw [← h2.length, z]; rfl))
        refine op_catT pins s σ H _ _ v u Q I rx ry ⟨p, p', xs, ys, rfl, rfl, Same.seqT r.fh h1, Same.seqT r.fh h3, hxs, by rw [h2.length, h4.length]; exact size6 hz.1, fun z => ?_, fun _ q hq => k_tup r k hq (Rps.append h4 h2)⟩
        have hb : b = [] := List.eq_nil_of_length_eq_zero (by rw [← h4.length, z]; rfl)
        subst hb
        rw [List.append_nil] at k
        exact k_val r k rfl (hx.rp rfl)
      · cases e
    | _ => cases e
  | _ => cases e
def gI (C : Int → Int → Bool) (f : Int → Int → Int) : D → D → Option D
  | .int i, .int j => if C i j = true then some (.int (f i j)) else none
  | _, _ => none
theorem od_I {f : Value → Value → Sem Value} {Cp : Int → Int → Prop} {g : Int → Int → Int} {C : Int → Int → Bool} (h : OpR X f (rI Cp fun i j => .int (g i j))) (hc : ∀ i j, C i j = true → Cp i j) : OpD X f (gI C g) := by
  intro pins s σ H x y v u Q I rx ry h'
  obtain ⟨O, F, as, dx, dy, d, r, hx, hy, e, k⟩ := h'
  cases dx with
  | int i =>
    cases (hx.rp rfl).unI
    cases dy with
    | int j =>
      cases (hy.rp rfl).unI
      simp only [gI] at e
      split at e
      · rename_i hC
        cases e
        exact h pins s σ H _ _ v u Q I rx ry ⟨i, j, rfl, rfl, hc i j hC, k_val r k rfl Rp.int⟩
      · cases e
    | _ => cases e
  | _ => cases e
def gMinus : D → D → Option D := gI (fun _ _ => true) fun i j => i - j
def small64 (i : Int) : Bool := decide (-(2 ^ 64) < i) && decide (i < 2 ^ 64)
theorem small64_iff {i : Int} (h : small64 i = true) : -(2 ^ 64) < i ∧ i < 2 ^ 64 := by
  unfold small64 at h
  rw [Bool.and_eq_true, decide_eq_true_eq, decide_eq_true_eq] at h
  exact h
def gMul : D → D → Option D
  | .int i, .int j => if (small64 i || small64 j) = true then some (.int (i * j)) else none
  | .str l, .int n => if -1000000 < n ∧ n < 1000000 ∧ l.length * n.toNat ≤ 16777216 then some (.str (List.replicate n.toNat l).flatten) else none
  | .lst l, .int n => if -1000000 < n ∧ n < 1000000 ∧ l.length * n.toNat ≤ 1000000 then some (.lst (List.replicate n.toNat l).flatten) else none
  | _, _ => none
theorem od_mul : OpD X (binaryOp .Mult) gMul := by
  intro pins s σ H x y v u Q I rx ry h
  obtain ⟨O, F, as, dx, dy, d, r, hx, hy, e, k⟩ := h
  cases dx with
  | int i =>
    cases (hx.rp rfl).unI
    cases dy with
    | int j =>
      cases (hy.rp rfl).unI
      simp only [gMul] at e
      split at e
      · rename_i hz
        cases e
        refine op_mul pins s σ H _ _ v u Q I rx ry ⟨i, j, rfl, rfl, ?_, k_val r k rfl Rp.int⟩
        rw [Bool.or_eq_true] at hz
        rcases hz with z | z
        · exact .inl (small64_iff z)
        · exact .inr (small64_iff z)
      · cases e
    | _ => cases e
  | str l =>
    cases (hx.rp rfl).unS
    cases dy with
    | int n =>
      cases (hy.rp rfl).unI
      simp only [gMul] at e
      split at e
      · rename_i hz
        cases e
        exact op_mul_str pins s σ H _ _ v u Q I rx ry ⟨l, n, rfl, rfl, hz.1, hz.2.1, hz.2.2, k_val r k rfl Rp.str⟩
      · cases e
    | _ => cases e
  | lst l =>
    obtain ⟨p, xs, rfl, h1, h2⟩ := hx.list r.fh
    cases dy with
    | int n =>
      cases (hy.rp rfl).unI
      simp only [gMul] at e
      split at e
      · rename_i hz
        cases e
        exact op_repR pins s σ H _ _ v u Q I rx ry ⟨p, n, xs, rfl, rfl, h1, by omega, by omega, by rw [h2.length]; exact size6 hz.2.2, fun q hq => k_lst r k hq (h2.rep _)⟩
      · cases e
    | _ => cases e
  | _ => cases e
def gMod : D → D → Option D := gI (fun _ j => decide (0 < j)) fun i j => i % j
theorem od_mod : OpD X (binaryOp .Mod) gMod := od_I op_mod fun _ _ h => of_decide_eq_true h
def gFdiv : D → D → Option D := gI (fun _ j => decide (0 < j) && decide (j < 1073741824)) fun i j => i / j
theorem od_fdiv : OpD X (binaryOp .FloorDiv) gFdiv := od_I op_fdiv fun i j h => by
  rw [Bool.and_eq_true, decide_eq_true_eq, decide_eq_true_eq] at h
  exact h
def gPow : D → D → Option D := gI (fun i j => decide (0 ≤ j) && (decide (j ≤ 1000000) && small64 i)) fun i j => i ^ j.toNat
theorem od_pow : OpD X (binaryOp .Pow) gPow := od_I op_pow fun i j h => by
  rw [Bool.and_eq_true, Bool.and_eq_true, decide_eq_true_eq, decide_eq_true_eq] at h
  have := small64_iff h.2.2
  exact ⟨h.1, h.2.1, by omega⟩
def mUn (g : D → Option D) (m : M D) : M D := fun ρ O => (m ρ O).bind fun d O1 => match g (deref O1 d) with
  | some y => .ok y O1
  | none => .no
def gCI (f : Int → Int → Bool) : D → D → Option D
  | .int i, .int j => some (.bl (f i j))
  | _, _ => none
theorem od_CI {f : Value → Value → Sem Value} {g : Int → Int → Bool} (h : OpR X f (rI0 fun i j => .bl (g i j))) : OpD X f (gCI g) := by
  intro pins s σ H x y v u Q I rx ry h'
  obtain ⟨O, F, as, dx, dy, d, r, hx, hy, e, k⟩ := h'
  cases dx with
  | int i =>
    cases (hx.rp rfl).unI
    cases dy with
    | int j =>
      cases (hy.rp rfl).unI
      cases e
      exact h pins s σ H _ _ v u Q I rx ry ⟨i, j, rfl, rfl, k_val r k rfl Rp.bl⟩
    | _ => cases e
  | _ => cases e
def gLt : D → D → Option D := gCI fun i j => decide (i < j)
def gGt : D → D → Option D := gCI fun i j => decide (j < i)
def gGe : D → D → Option D := gCI fun i j => decide (j ≤ i)
def gLe : D → D → Option D
  | .int i, .int j => some (.bl (decide (i ≤ j)))
  | .str a, .str b => some (.bl (!decide (b < a)))
  | _, _ => none
theorem od_lt : OpD X (compareOp .Lt) gLt := od_CI op_lt
theorem od_gt : OpD X (compareOp .Gt) gGt := od_CI op_gt
mutual
def toP : D → PyData
  | .non => .none
  | .bl b => .bool b
  | .int i => .int i
  | .str l => .str (S l)
  | .lst ds => .list (toPs ds)
  | .tup ds => .tuple (toPs ds)
  | .dic _ _ => .none
  | .ob _ => .none
def toPs : List D → List PyData
  | [] => []
  | d :: ds => toP d :: toPs ds
end
mutual
def plainD : D → Bool
  | .lst ds => plainDs ds
  | .tup ds => plainDs ds
  | .dic _ _ => false
  | .ob _ => false
  | _ => true
def plainDs : List D → Bool
  | [] => true
  | d :: ds => plainD d && plainDs ds
end
section
variable {K : Frag} {F : Hp} {as : List Addr}
mutual
theorem Rp.rep : ∀ (d : D) {v : V}, plainD d = true → Rp K F as v d → Rep K F v (toP d)
  | .non, v, _, h => by rw [toP, Rep]; exact h.unN
  | .bl b, v, _, h => by rw [toP, Rep]; exact h.unB
  | .int i, v, _, h => by rw [toP, Rep]; exact h.unI
  | .str x, v, _, h => by rw [toP, Rep]; exact h.unS
  | .lst ds, v, hp, h => by
    obtain ⟨a, xs, h1, h2, h3⟩ := h.unL
    rw [toP, Rep]
    rw [plainD] at hp
    exact ⟨a, xs, h1, h2.sq, Rps.rep' ds hp h3⟩
  | .tup ds, v, hp, h => by
    obtain ⟨a, xs, h1, h2, h3⟩ := h.unT
    rw [toP, Rep]
    rw [plainD] at hp
    exact ⟨a, xs, h1, h2, Rps.rep' ds hp h3⟩
  | .dic _ _, v, hp, h => by rw [plainD] at hp; cases hp
  | .ob _, v, hp, h => by rw [plainD] at hp; cases hp
theorem Rps.rep' : ∀ (ds : List D) {xs : List V}, plainDs ds = true → Rps K F as xs ds → Reps K F xs (toPs ds)
  | [], xs, _, h => by rw [h.un0, toPs]; exact Reps.nil
  | d :: ds, xs, hp, h => by
    obtain ⟨x, r, rfl, h2, h3⟩ := h.un
    rw [plainDs, Bool.and_eq_true] at hp
    rw [toPs]
    exact Reps.cons (Rp.rep d hp.1 h2) (Rps.rep' ds hp.2 h3)
end
theorem Lk.rep {H : Hp} {d : D} {v : V} (h : Lk K H F as v d) (fh : Same F H) (hp : plainD d = true) : Rep K H v (toP d) := by
  rcases h with h | ⟨a, xs, ds, rfl, rfl, h1, h2⟩
  · exact Rep.mono fh _ (Rp.rep d hp h)
  · rw [plainD] at hp
    rw [toP, Rep]
    exact ⟨a, xs, rfl, .inl (.inl h1), Reps.mono fh _ (Rps.rep' ds hp h2)⟩
end
def okE (d : D) : Bool := plainD d && okD (toP d)
def eqDD (a b : D) : Bool := PyData.eqv (toP a) (toP b)
def gEq : D → D → Option D
  | .int i, .int j => some (.bl (decide (i = j)))
  | .str a, .str b => some (.bl (decide (a = b)))
  | .bl a, .bl b => some (.bl (decide (a = b)))
  | a, b => if (okE a && okE b) = true then some (.bl (eqDD a b)) else none
def gNe : D → D → Option D
  | .int i, .int j => some (.bl (!decide (i = j)))
  | .str a, .str b => some (.bl (!decide (a = b)))
  | .bl a, .bl b => some (.bl (!decide (a = b)))
  | a, b => if (okE a && okE b) = true then some (.bl (!eqDD a b)) else none
theorem dec_S (a b : List Nat) : decide (V.str (S a) = V.str (S b)) = decide (a = b) := by
  by_cases h : a = b
  · subst h; simp
  · rw [decide_eq_false h, decide_eq_false]
    intro z
    exact h (S_inj (V.str.inj z))
theorem dec_I (a b : Int) : decide (V.int a = V.int b) = decide (a = b) := by
  by_cases h : a = b
  · subst h; simp
  · rw [decide_eq_false h, decide_eq_false]
    intro z
    exact h (V.int.inj z)
theorem dec_B (a b : Bool) : decide (V.bl a = V.bl b) = decide (a = b) := by
  cases a <;> cases b <;> rfl
theorem gEq_gen {a b d : D} (h : gEq a b = some d) : (∃ i j, a = .int i ∧ b = .int j ∧ d = .bl (decide (i = j))) ∨ (∃ i j, a = .str i ∧ b = .str j ∧ d = .bl (decide (i = j))) ∨ (∃ i j, a = .bl i ∧ b = .bl j ∧ d = .bl (decide (i = j))) ∨
    (okE a = true ∧ okE b = true ∧ d = .bl (eqDD a b)) := by
  unfold gEq at h
  split at h
  · cases h; exact .inl ⟨_, _, rfl, rfl, rfl⟩
  · cases h; exact .inr (.inl ⟨_, _, rfl, rfl, rfl⟩)
  · cases h; exact .inr (.inr (.inl ⟨_, _, rfl, rfl, rfl⟩))
  · split at h
    · rename_i hk
      rw [Bool.and_eq_true] at hk
      cases h
      exact .inr (.inr (.inr ⟨hk.1, hk.2, rfl⟩))
    · cases h
theorem gNe_gen {a b d : D} (h : gNe a b = some d) : (∃ i j, a = .int i ∧ b = .int j ∧ d = .bl (!decide (i = j))) ∨ (∃ i j, a = .str i ∧ b = .str j ∧ d = .bl (!decide (i = j))) ∨ (∃ i j, a = .bl i ∧ b = .bl j ∧ d = .bl (!decide (i = j))) ∨
    (okE a = true ∧ okE b = true ∧ d = .bl (!eqDD a b)) := by
  unfold gNe at h
  split at h
  · cases h; exact .inl ⟨_, _, rfl, rfl, rfl⟩
  · cases h; exact .inr (.inl ⟨_, _, rfl, rfl, rfl⟩)
  · cases h; exact .inr (.inr (.inl ⟨_, _, rfl, rfl, rfl⟩))
  · split at h
    · rename_i hk
      rw [Bool.and_eq_true] at hk
      cases h
      exact .inr (.inr (.inr ⟨hk.1, hk.2, rfl⟩))
    · cases h
theorem od_eq {k : Nat} (hr : Room k X.A) : OpD X (compareOp .Eq) gEq := by
  intro pins s σ H x y v u Q I rx ry h'
  obtain ⟨O, F, as, dx, dy, d, r, hx, hy, e, k⟩ := h'
  rcases gEq_gen e with ⟨i, j, rfl, rfl, rfl⟩ | ⟨i, j, rfl, rfl, rfl⟩ | ⟨i, j, rfl, rfl, rfl⟩ | ⟨h1, h2, rfl⟩
  · cases (hx.rp rfl).unI
    cases (hy.rp rfl).unI
    refine op_eq pins s σ H _ _ v u Q I rx ry ⟨rfl, ?_⟩
    rw [dec_I]
    exact k_val r k rfl Rp.bl
  · cases (hx.rp rfl).unS
    cases (hy.rp rfl).unS
    refine op_eq pins s σ H _ _ v u Q I rx ry ⟨rfl, ?_⟩
    rw [dec_S]
    exact k_val r k rfl Rp.bl
  · cases (hx.rp rfl).unB
    cases (hy.rp rfl).unB
    refine op_eq pins s σ H _ _ v u Q I rx ry ⟨rfl, ?_⟩
    rw [dec_B]
    exact k_val r k rfl Rp.bl
  · unfold okE at h1 h2
    rw [Bool.and_eq_true] at h1 h2
    exact op_eqD hr pins s σ H _ _ v u Q I rx ry ⟨toP dx, toP dy, hx.rep r.fh h1.1, hy.rep r.fh h2.1, h1.2, h2.2, k_val r k rfl Rp.bl⟩
theorem od_ne {k : Nat} (hr : Room k X.A) : OpD X (compareOp .NotEq) gNe := by
  intro pins s σ H x y v u Q I rx ry h'
  obtain ⟨O, F, as, dx, dy, d, r, hx, hy, e, k⟩ := h'
  rcases gNe_gen e with ⟨i, j, rfl, rfl, rfl⟩ | ⟨i, j, rfl, rfl, rfl⟩ | ⟨i, j, rfl, rfl, rfl⟩ | ⟨h1, h2, rfl⟩
  · cases (hx.rp rfl).unI
    cases (hy.rp rfl).unI
    refine op_ne pins s σ H _ _ v u Q I rx ry ⟨rfl, ?_⟩
    rw [dec_I]
    exact k_val r k rfl Rp.bl
  · cases (hx.rp rfl).unS
    cases (hy.rp rfl).unS
    refine op_ne pins s σ H _ _ v u Q I rx ry ⟨rfl, ?_⟩
    rw [dec_S]
    exact k_val r k rfl Rp.bl
  · cases (hx.rp rfl).unB
    cases (hy.rp rfl).unB
    refine op_ne pins s σ H _ _ v u Q I rx ry ⟨rfl, ?_⟩
    rw [dec_B]
    exact k_val r k rfl Rp.bl
  · unfold okE at h1 h2
    rw [Bool.and_eq_true] at h1 h2
    exact op_neD hr pins s σ H _ _ v u Q I rx ry ⟨toP dx, toP dy, hx.rep r.fh h1.1, hy.rep r.fh h2.1, h1.2, h2.2, k_val r k rfl Rp.bl⟩
def toV : D → V
  | .bl b => .bl b
  | .int i => .int i
  | .str l => .str (S l)
  | _ => .non
def flatD : D → Bool
  | .non => true
  | .bl _ => true
  | .int _ => true
  | .str _ => true
  | _ => false
def eqF (x y : D) : Bool := eqV (toV x) (toV y)
def gIn (neg : Bool) : D → D → Option D
  | .str [c], .str l => some (.bl (neg ^^ decide (c ∈ l)))
  | x, .lst ds => if (flatD x && ds.all flatD) = true then some (.bl (neg ^^ ds.any fun y => eqF y x)) else none
  | x, .tup ds => if (flatD x && ds.all flatD) = true then some (.bl (neg ^^ ds.any fun y => eqF y x)) else none
  | _, _ => none
def gIx : D → D → Option D
  | .lst ds, .int i => atI ds i
  | .tup ds, .int i => atI ds i
  | .str l, .int i => if l.length ≤ 1000000 then (atI l i).map fun c => .str [c] else none
  | _, _ => none
theorem Rps.atI {K : Frag} {F : Hp} {as : List Addr} {xs : List V} {ds : List D} {i : Int} {d : D} (h : Rps K F as xs ds) (e : atI ds i = some d) : ∃ v, L2.atI xs i = some v ∧ Rp K F as v d := by
  unfold L2.atI at e ⊢
  rw [h.length]
  cases q : ixN ds.length i with
  | none => rw [q] at e; cases e
  | some j =>
    rw [q] at e
    exact h.get' e
def rDv (K : Frag) (mg : Str → Option Value) (g : D → D → Option D) : R2 := fun x y H Q => ∃ O F as dx dy d, RlO K mg O H F as ∧ Lk K H F as x dx ∧ Lk K H F as y dy ∧ g dx dy = some d ∧ ∀ v', Rp K F as v' d → Q v' H
theorem ix_D : IxR X (rDv X.K X.mg gIx) := by
  intro value slice pins s σ H x y v u Q I rx ry h' hsb
  obtain ⟨O, F, as, dx, dy, d, r, hx, hy, e, k⟩ := h'
  cases dx with
  | lst ds =>
    obtain ⟨p, xs, rfl, h1, h2⟩ := hx.list r.fh
    cases dy with
    | int i =>
      cases (hy.rp rfl).unI
      obtain ⟨z, e1, e2⟩ := h2.atI e
      exact ix_list value slice pins s σ H _ _ v u Q I rx ry ⟨p, xs, i, z, rfl, rfl, h1.sq, e1, k z e2⟩ hsb
    | _ => cases e
  | tup ds =>
    obtain ⟨p, xs, rfl, h1, h2⟩ := (hx.rp rfl).unT
    cases dy with
    | int i =>
      cases (hy.rp rfl).unI
      obtain ⟨z, e1, e2⟩ := h2.atI e
      exact ix_tup value slice pins s σ H _ _ v u Q I rx ry ⟨p, xs, i, z, rfl, rfl, Same.seqT r.fh h1, e1, k z e2⟩ hsb
    | _ => cases e
  | str l =>
    cases (hx.rp rfl).unS
    cases dy with
    | int i =>
      cases (hy.rp rfl).unI
      simp only [gIx] at e
      split at e
      · rename_i hz
        cases q : L2.atI l i with
        | none => rw [q] at e; cases e
        | some c =>
          rw [q] at e
          cases e
          exact ix_str value slice pins s σ H _ _ v u Q I rx ry ⟨S l, i, c, rfl, rfl, by rw [S_length]; exact size6 hz, by rw [S_cps]; exact q, k _ Rp.str⟩ hsb
      · cases e
    | _ => cases e
  | _ => cases e
theorem ve_ix {md : List Md} {P : Pt} {a b : Expr} {pos : Pos} {ma mb : M D} (ha : SE X md P a ma) (hb : SE X md P b mb) (hs : PlainIx b := by intro _ _; rfl) : VE X md P (.Subscript a b pos) (mBin gIx ma mb) := (pe_ix ix_D ha hb hs).imp fun σ H Q h => by
  obtain ⟨ρ, O, F, as, d, O', r, sl, e, k⟩ := h
  obtain ⟨x, O1, e1, e⟩ := Res.bind_ok e
  obtain ⟨y, O2, e2, e⟩ := Res.bind_ok e
  split at e
  · rename_i d' hg
    cases e
    refine ⟨ρ, _, F, as, _, _, r, sl, e1, fun v H1 F1 as1 g1 r1 hv => ?_⟩
    refine ⟨ρ, _, F1, as1, _, _, r1, sl.step g1, e2, fun u H2 F2 as2 g2 r2 hu => ?_⟩
    exact ⟨_, F2, as2, _, _, _, r2, Sv.lk (Sv.gr hv g2) r2, Sv.lk hu r2, hg, fun v' hw => k v' H2 F2 as2 (g1.trans g2) r2 hw⟩
  · cases e
def tMO (K : Frag) (mg : Str → Option Value) (md : List Md) (P : Pt) (m : M (Option Int)) : TO := fun σ H Q =>
  ∃ ρ O F as b O', RlO K mg O H F as ∧ SlO K md P ρ σ H F as ∧ m ρ O = .ok b O' ∧ ∀ H' F' as', Gr H F as H' F' as' → RlO K mg O' H' F' as' → Q b H'
def VO (X : Cx) (md : List Md) (P : Pt) (e : Option Expr) (m : M (Option Int)) : Prop := PO X e (tMO X.K X.mg md P m)
theorem PO.imp {e : Option Expr} {t t' : TO} (h : PO X e t) (k : ∀ σ H Q, t' σ H Q → t σ H Q) : PO X e t' := fun pins s σ H Q I q => h pins s σ H Q I (k σ H Q q)
def moN : M (Option Int) := fun _ O => .ok none O
def moS (m : M D) : M (Option Int) := fun ρ O => (m ρ O).bind fun d O1 => match d with
  | .int i => .ok (some i) O1
  | _ => .no
theorem vo_some {md : List Md} {P : Pt} {e : Expr} {m : M D} (h : VE X md P e m) : VO X md P (some e) (moS m) := (po_some h).imp fun σ H Q q => by
  obtain ⟨ρ, O, F, as, d, O', r, s, e, k⟩ := q
  obtain ⟨x, O1, e1, e⟩ := Res.bind_ok e
  cases x with
  | int i =>
    cases e
    exact ⟨ρ, _, F, as, _, _, r, s, e1, fun v H1 F1 as1 g1 r1 hv => ⟨i, Rp.unI hv, k H1 F1 as1 g1 r1⟩⟩
  | _ => cases e
def gSl (d : D) (lo hi : Option Int) : Option D := match d with
  | .lst ds => some (.lst (cutN ds lo hi))
  | .tup ds => some (.tup (cutN ds lo hi))
  | .str l => if l.length ≤ 16777216 then some (.str (cutN l lo hi)) else none
  | _ => none
def rSlD (K : Frag) (mg : Str → Option Value) : V → Option Int → Option Int → Hp → VK → Prop := fun x lo hi H Q => ∃ O F as dx d, RlO K mg O H F as ∧ Lk K H F as x dx ∧ gSl dx lo hi = some d ∧
  ∀ v' H' F', Gr H F as H' F' as → RlO K mg O H' F' as → Ow K (fun a => H a = none) H' F' as v' d → Q v' H'
theorem Rps.cut {K : Frag} {F : Hp} {as : List Addr} {xs : List V} {ds : List D} (h : Rps K F as xs ds) (lo hi : Option Int) : Rps K F as (cutV xs lo hi) (cutN ds lo hi) := by
  unfold cutV cutN
  rw [h.length]
  exact (h.drop _).take _
theorem sl_D : SlR X (rSlD X.K X.mg) := by
  intro pins s σ H x v vl vu lo hi sl Q I rx hs pl pu h
  obtain ⟨O, F, as, dx, d, r, hx, e, k⟩ := h
  cases dx with
  | lst ds =>
    obtain ⟨p, xs, rfl, h1, h2⟩ := hx.list r.fh
    cases e
    exact sl_list pins s σ H _ v vl vu lo hi sl Q I rx hs pl pu ⟨p, xs, rfl, h1.sq, fun q hq => k_lst r k hq (h2.cut lo hi)⟩
  | tup ds =>
    obtain ⟨p, xs, rfl, h1, h2⟩ := (hx.rp rfl).unT
    cases e
    refine sl_tup2 X.K rfl pins s σ H _ v vl vu lo hi sl Q I rx hs pl pu ⟨p, xs, rfl, Same.seqT r.fh h1, fun z => ?_, fun _ q hq => k_tup r k hq (h2.cut lo hi)⟩
    have : cutN ds lo hi = ds := by
      unfold cutN
      rw [← h2.length, z.1, z.2, List.drop_zero, Nat.sub_zero, h2.length, List.take_length]
    rw [this] at k
    exact k_val r k rfl (hx.rp rfl)
  | str l =>
    cases (hx.rp rfl).unS
    simp only [gSl] at e
    split at e
    · rename_i hz
      cases e
      exact sl_str pins s σ H _ v vl vu lo hi sl Q I rx hs pl pu ⟨l, rfl, Nat.le_trans hz (Nat.le_of_eq sizeLine_eq.symm), k_val r k rfl Rp.str⟩
    · cases e
  | _ => cases e
def mSl (m : M D) (lo hi : M (Option Int)) : M D := fun ρ O => (m ρ O).bind fun d O1 => (lo ρ O1).bind fun l O2 => (hi ρ O2).bind fun h O3 => match gSl (deref O3 d) l h with
  | some y => .ok y O3
  | none => .no
end
end L2
namespace L2
open PySem PySem.Spec PyProof.Rows
section
variable {X : Cx} {md : List Md} {P : Pt} {R : RR}
theorem oe_slice {e : Expr} {lo hi : Option Expr} {p2 pos : Pos} {m : M D} {ml mh : M (Option Int)} (he : SE X md P e m) (hl : VO X md P lo ml) (hh : VO X md P hi mh) : OE X md P (.Subscript e (.Slice lo hi none p2) pos) (mSl m ml mh) := (pe_slice sl_D he hl hh).imp fun σ H Q q => by
  obtain ⟨ρ, O, F, as, d, O', r, s, e, k⟩ := q
  obtain ⟨x, O1, e1, e⟩ := Res.bind_ok e
  obtain ⟨l, O2, e2, e⟩ := Res.bind_ok e
  obtain ⟨h, O3, e3, e⟩ := Res.bind_ok e
  split at e
  · rename_i y hg
    cases e
    refine ⟨ρ, _, F, as, _, _, r, s, e1, fun v H1 F1 as1 g1 r1 hv => ?_⟩
    refine ⟨ρ, _, F1, as1, _, _, r1, s.step g1, e2, fun H2 F2 as2 g2 r2 => ?_⟩
    have g12 := g1.trans g2
    refine ⟨ρ, _, F2, as2, _, _, r2, s.step g12, e3, fun H3 F3 as3 g3 r3 => ?_⟩
    have g13 := g12.trans g3
    exact ⟨_, F3, as3, _, _, r3, Sv.lk (Sv.gr (Sv.gr hv g2) g3) r3, hg, fun v' H' F' g' r' hw => k v' H' F' as3 (g13.trans g') r' (rO_ok _ _ _ _ _ _ _ (fun a ha => g13.dm a ha) hw)⟩
  · cases e
def Lks (K : Frag) (H F : Hp) (as : List Addr) : List V → List D → Prop
  | [], [] => True
  | v :: vs, d :: ds => Lk K H F as v d ∧ Lks K H F as vs ds
  | _, _ => False
theorem ArgsR.lks {K : Frag} {mg : Str → Option Value} {O : Store} {H F : Hp} {as : List Addr} (r : RlO K mg O H F as) : ∀ {ms : List Md} {vs : List V} {ds : List D}, ArgsR K H F as ms vs ds → Lks K H F as vs (ds.map (deref O))
  | [], [], [], _ => trivial
  | m :: ms, v :: vs, d :: ds, h => by
    refine ⟨?_, ArgsR.lks r h.2⟩
    have h1 : Sv K H F as v d := by
      cases m with
      | v => exact .inl h.1
      | s => exact h.1
      | o => exact h.1
    exact h1.lk r
  | [], [], _ :: _, h => h.elim
  | [], _ :: _, [], h => h.elim
  | [], _ :: _, _ :: _, h => h.elim
  | _ :: _, [], [], h => h.elim
  | _ :: _, [], _ :: _, h => h.elim
  | _ :: _, _ :: _, [], h => h.elim
def rC (K : Frag) (mg : Str → Option Value) (g : List D → Option D) : List V → Hp → VK → Prop := fun vs H Q => ∃ O F as ds d, RlO K mg O H F as ∧ Lks K H F as vs ds ∧ g ds = some d ∧
  ∀ v' H' F', Gr H F as H' F' as → RlO K mg O H' F' as → Ow K (fun a => H a = none) H' F' as v' d → Q v' H'
abbrev CallD (X : Cx) (f : Value) (g : List D → Option D) : Prop := CallR X f (rC X.K X.mg g)
def mCallB (g : List D → Option D) (ma : M (List D)) : M D := fun ρ O => (ma ρ O).bind fun ds O1 => match g (ds.map (deref O1)) with
  | some d => .ok d O1
  | none => .no
theorem callB_go {K : Frag} {mg : Str → Option Value} {g : List D → Option D} {ms : List Md} {ma : M (List D)} {σ : St} {H : Hp} {Q : VK} (q : tM K mg md P (rO K) (mCallB g ma) σ H Q) : tCB (rC K mg g) (tMA K mg md P ms ma) σ H Q := by
  obtain ⟨ρ, O, F, as, d, O', r, s, e, k⟩ := q
  obtain ⟨ds, O1, e1, e⟩ := Res.bind_ok e
  split at e
  · rename_i y hg
    cases e
    refine ⟨ρ, _, F, as, _, _, r, s, e1, fun vs H1 F1 as1 g1 r1 hv => ?_⟩
    exact ⟨_, F1, as1, _, _, r1, hv.lks r1, hg, fun v' H' F' g' r' hw => k v' H' F' as1 (g1.trans g') r' (rO_ok _ _ _ _ _ _ _ (fun a ha => g1.dm a ha) hw)⟩
  · cases e
theorem oe_callB {x : Str} {p pos : Pos} {e : Expr} {es : List Expr} {id : String} {g : List D → Option D} {ms : List Md} {ma : M (List D)} (hc : CallD X (.builtin id) g) (hm : X.mg x = none) (ha : AE X md P ms (e :: es) ma) (hv : bootBuiltins x = some (.builtin id) := by decide +kernel) (hg : Gl X x := by rfl)
    (hn : x ≠ "__name__" := by decide) (hdb : (x == ("__debug__" : Str)) = false := by decide) (he : starEach (e :: es) X.env = (false, eval e X.env) :: starEach es X.env := by exact starC rfl) (hpl : (backTo pos (starEach es X.env)).any (·.1) = false := by exact starAny rfl) :
    OE X md P (.Call (.Name x p) (e :: es) [] pos) (mCallB g ma) := (pe_callB hc hg hm hv ha hn hdb he hpl).imp fun _ _ _ q => callB_go q
theorem oe_callT {x : Str} {p pos : Pos} {e : Expr} {es : List Expr} {T : String} {g : List D → Option D} {ms : List Md} {ma : M (List D)} (hc : CallD X (.type T) g) (hm : X.mg x = none) (ha : AE X md P ms (e :: es) ma) (hv : bootBuiltins x = some (.type T) := by decide +kernel) (hg : Gl X x := by rfl)
    (hn : x ≠ "__name__" := by decide) (hdb : (x == ("__debug__" : Str)) = false := by decide) (he : starEach (e :: es) X.env = (false, eval e X.env) :: starEach es X.env := by exact starC rfl) (hpl : (backTo pos (starEach es X.env)).any (·.1) = false := by exact starAny rfl) :
    OE X md P (.Call (.Name x p) (e :: es) [] pos) (mCallB g ma) := (pe_callTy hc hg hm hv ha hn hdb he hpl).imp fun _ _ _ q => callB_go q
theorem Lks.one {K : Frag} {H F : Hp} {as : List Addr} {vs : List V} {d : D} (h : Lks K H F as vs [d]) : ∃ v, vs = [v] ∧ Lk K H F as v d := by
  cases vs with
  | nil => exact h.elim
  | cons v vs =>
    cases vs with
    | nil => exact ⟨v, rfl, h.1⟩
    | cons u us => exact h.2.elim
def gLen : List D → Option D
  | [.str l] => if l.length ≤ 1000000 then some (.int l.length) else none
  | [.lst ds] => some (.int ds.length)
  | [.tup ds] => some (.int ds.length)
  | _ => none
theorem cd_len : CallD X (.builtin "len") gLen := by
  intro pins s σ H xs us Q I rs h
  obtain ⟨O, F, as, ds, d, r, hvs, e, k⟩ := h
  unfold gLen at e
  split at e
  · rename_i l
    obtain ⟨v, rfl, hv⟩ := hvs.one
    split at e
    · rename_i hz
      cases e
      cases (hv.rp rfl).unS
      refine call_len pins s σ H _ us Q I rs ⟨_, _, rfl, ⟨by rw [S_length]; exact size6 hz, rfl⟩, ?_⟩
      rw [S_length]
      exact k_val r k rfl Rp.int
    · cases e
  · rename_i l
    obtain ⟨v, rfl, hv⟩ := hvs.one
    cases e
    obtain ⟨p, xs, rfl, h1, h2⟩ := hv.list r.fh
    refine call_len pins s σ H _ us Q I rs ⟨_, _, rfl, .inl ⟨xs, h1.sq, rfl⟩, ?_⟩
    rw [h2.length]
    exact k_val r k rfl Rp.int
  · rename_i l
    obtain ⟨v, rfl, hv⟩ := hvs.one
    cases e
    obtain ⟨p, xs, rfl, h1, h2⟩ := (hv.rp rfl).unT
    refine call_len pins s σ H _ us Q I rs ⟨_, _, rfl, .inr ⟨xs, Same.seqT r.fh h1, rfl⟩, ?_⟩
    rw [h2.length]
    exact k_val r k rfl Rp.int
  · cases e
def gMax : List D → Option D
  | [.int i, .int j] => some (.int (if j > i then j else i))
  | _ => none
def gMin : List D → Option D
  | [.int i, .int j] => some (.int (if j < i then j else i))
  | _ => none
def gInt : List D → Option D
  | [.int i] => some (.int i)
  | [.bl b] => some (.int (if b then 1 else 0))
  | _ => none
theorem cd_int : CallD X (.type "int") gInt := by
  intro pins s σ H xs us Q I rs h
  obtain ⟨O, F, as, ds, d, r, hvs, e, k⟩ := h
  unfold gInt at e
  split at e
  · obtain ⟨v, rfl, hv⟩ := hvs.one
    cases e
    cases (hv.rp rfl).unI
    exact call_int1 pins s σ H _ us Q I rs (.inl ⟨_, rfl, k_val r k rfl Rp.int⟩)
  · obtain ⟨v, rfl, hv⟩ := hvs.one
    cases e
    cases (hv.rp rfl).unB
    exact call_int1 pins s σ H _ us Q I rs (.inr ⟨_, rfl, k_val r k rfl Rp.int⟩)
  · cases e
def gList : List D → Option D
  | [.lst ds] => some (.lst ds)
  | [.tup ds] => some (.lst ds)
  | _ => none
theorem cd_list : CallD X (.type "list") gList := by
  intro pins s σ H xs us Q I rs h
  obtain ⟨O, F, as, ds, d, r, hvs, e, k⟩ := h
  unfold gList at e
  split at e
  · obtain ⟨v, rfl, hv⟩ := hvs.one
    cases e
    obtain ⟨p, xs, rfl, h1, h2⟩ := hv.list r.fh
    exact call_list_of pins s σ H _ us Q I rs ⟨p, xs, rfl, .inl h1.sq, fun l hl => k_lst r k hl h2⟩
  · obtain ⟨v, rfl, hv⟩ := hvs.one
    cases e
    obtain ⟨p, xs, rfl, h1, h2⟩ := (hv.rp rfl).unT
    exact call_list_of pins s σ H _ us Q I rs ⟨p, xs, rfl, .inr (Same.seqT r.fh h1), fun l hl => k_lst r k hl h2⟩
  · cases e
theorem bb_len : bootBuiltins "len" = some (.builtin "len") := by decide +kernel
theorem bt_int : bootBuiltins "int" = some (.type "int") := by decide +kernel
theorem bt_bool : bootBuiltins "bool" = some (.type "bool") := by decide +kernel
theorem bt_list : bootBuiltins "list" = some (.type "list") := by decide +kernel
theorem bt_tuple : bootBuiltins "tuple" = some (.type "tuple") := by decide +kernel
def tyD : D → Option String
  | .non => some "NoneType"
  | .bl _ => some "bool"
  | .int _ => some "int"
  | .str _ => some "str"
  | .lst _ => some "list"
  | .tup _ => some "tuple"
  | .dic _ _ => some "dict"
  | .ob _ => none
def isTy (t n : String) : Bool := t == n || (t == "bool" && n == "int")
def mIsi (n : String) (m : M D) : M D := fun ρ O => (m ρ O).bind fun d O1 => match tyD (deref O1 d) with
  | some t => .ok (.bl (isTy t n)) O1
  | none => .no
def isiT : List String := ["str", "int", "bool", "list", "tuple", "dict"]
theorem kit_all (K : Frag) : ∀ d t, tyD d = some t → ∀ n ∈ isiT, PySem.W.kitOne K (.type t) (.type n) = some (isTy t n) := by
  intro d t e n hn
  simp only [isiT, List.mem_cons, List.not_mem_nil, or_false] at hn
  cases d <;> cases e <;> rcases hn with rfl | rfl | rfl | rfl | rfl | rfl <;> first | exact kit_same K _ | kernel_rfl
theorem Lk.ty {K : Frag} {H F : Hp} {as : List Addr} {v : V} {d : D} {t : String} (h : Lk K H F as v d) (fh : Same F H) (e : tyD d = some t) : TyQ K H v t := by
  cases d with
  | non => cases e; rw [(h.rp rfl).unN]; exact .non
  | bl b => cases e; rw [(h.rp rfl).unB]; exact .bl _
  | int b => cases e; rw [(h.rp rfl).unI]; exact .int _
  | str b => cases e; rw [(h.rp rfl).unS]; exact .str _
  | lst ds => cases e; obtain ⟨p, xs, rfl, h1, h2⟩ := h.list fh; exact .lst h1.sq
  | tup ds => cases e; obtain ⟨p, xs, rfl, h1, h2⟩ := (h.rp rfl).unT; exact .tup (Same.seqT fh h1)
  | dic ks vs => cases e; obtain ⟨p, xs, rfl, h1, h2⟩ := (h.rp rfl).unD; exact .dK (fh _ _ h1)
  | ob n => cases e
theorem oe_isi (n : String) {T : Str} {a : Expr} {p p' pos : Pos} {m : M D} (hm : X.mg "isinstance" = none) (hT : X.mg T = none) (h : SE X md P a m) (hb : bootBuiltins T = some (.type n) := by decide +kernel) (hn : n ∈ isiT := by decide) (hg : Gl X "isinstance" := by rfl) (hgT : Gl X T := by rfl)
    (hTn : T ≠ "__name__" := by decide) (hTd : (T == ("__debug__" : Str)) = false := by decide)
    (hs1 : starEach [a, .Name T p'] X.env = (false, eval a X.env) :: starEach [.Name T p'] X.env := by exact starC rfl) (hs2 : starEach [.Name T p'] X.env = (false, eval (.Name T p') X.env) :: starEach [] X.env := by rfl) (hpl : (backTo pos (starEach [.Name T p'] X.env)).any (·.1) = false := by exact starAny rfl) :
    OE X md P (.Call (.Name "isinstance" p) [a, .Name T p'] [] pos) (mIsi n m) :=
  (pe_callB (call_isiK X.K) hg hm (by decide +kernel) (pa_cons h (pa_cons (pe_bltn (v := .ty n) hgT hT hb rfl hTn hTd) pa_nil hs2) hs1) (by decide) (by decide) hs1 hpl).imp fun σ H Q q => by
    obtain ⟨ρ, O, F, as, d, O', r, s, e, k⟩ := q
    obtain ⟨x, O1, e1, e⟩ := Res.bind_ok e
    split at e
    · rename_i t ht
      cases e
      refine ⟨ρ, _, F, as, _, _, r, s, e1, fun v H1 F1 as1 g1 r1 hv => ?_⟩
      exact ⟨v, n, t, _, rfl, Lk.ty (Sv.lk hv r1) r1.fh ht, kit_all _ _ t ht n hn, k _ H1 F1 as1 g1 r1 (.inl ⟨rfl, Rp.bl⟩)⟩
    · cases e
def mList (m : M D) : M (List D) := fun ρ O => (m ρ O).bind fun d O1 => match d with
  | .lst ds => .ok ds O1
  | _ => .no
def mTupI (m : M D) : M (List D) := fun ρ O => (m ρ O).bind fun d O1 => match d with
  | .tup ds => .ok ds O1
  | _ => .no
theorem jok_list {K : Frag} {mg : Str → Option Value} {H F : Hp} {as : List Addr} {a : Addr} {xs : List V} {ds : List D} (hs : Rps K F as xs ds) (hp : ∀ (H2 F2 : Hp) (as2 : List Addr), GrS P H F as H2 F2 as2 → (∃ O, RlO K mg O H2 F2 as2) → RdK K H2 a xs) : JOk K mg P (Itl K a) ds H F as := by
  refine ⟨fun i d H2 F2 as2 g r e => ?_, fun H2 F2 as2 g r => ⟨xs, (hp H2 F2 as2 g r).sq, by rw [hs.length]; exact Nat.le_refl _⟩⟩
  obtain ⟨x, h1, h2⟩ := hs.get' e
  have q := hp H2 F2 as2 g r
  refine ⟨⟨xs, x, q.sq, h1⟩, fun y H3 hy => ?_⟩
  obtain ⟨rfl, hy⟩ := hy
  have := hy xs q.sq
  rw [h1] at this
  cases this
  exact ⟨F2, Gr.refl, fun _ r => r, h2.grS g⟩
end
end L2
namespace L2
open PySem PySem.Spec PyProof.Rows
section
variable {X : Cx} {pins : List (Addr × Obj)} {σ : St} {H : Hp} {s : Shared}
end
section
variable {X : Cx} {elts : List Expr} {x1 : Nat} {tpos : Pos}
end
end L2
namespace L2
open PySem PySem.Spec PyProof.Rows
def rW (K : Frag) (P : Pt) : RR := fun _ H F as v d => Rp K F as v d ∨ ∃ a xs ds, v = .ref a ∧ d = .lst ds ∧ H a = some (.lst xs) ∧ a ∉ as ∧ P a ∧ Rps K F as xs ds
def WE (X : Cx) (md : List Md) (P : Pt) (e : Expr) (m : M D) : Prop := PE X e (tM X.K X.mg md P (rW X.K P) m)
section
variable {X : Cx} {md : List Md} {P : Pt} {R : RR}
theorem we_ve {e : Expr} {m : M D} (h : VE X md P e m) : WE X md P e m := h.imp fun σ H Q q => by
  obtain ⟨ρ, O, F, as, d, O', r, s, e, k⟩ := q
  exact ⟨ρ, O, F, as, d, O', r, s, e, fun v H' F' as' g r' hv => k v H' F' as' g r' (.inl hv)⟩
theorem we_var (i : Nat) {x : Str} {pos : Pos} (hm : md[i]? = some .s := by rfl) (hN : X.N[i]? = some x := by rfl) (hv : Vis X.env.scope x := by first | exact Or.inl rfl | exact Or.inr (Or.inl rfl) | exact Or.inr (Or.inr rfl))
    (hd : (x == ("__debug__" : Str)) = false := by decide) (hcd : (x == ("__classdict__" : Str)) = false := by decide) : WE X md P (.Name x pos) (mVar i) := by
  refine (pe_var (i := i) hN hv hd hcd).imp fun σ H Q h => ?_
  obtain ⟨ρ, O, F, as, d, O', r, s, e, k⟩ := h
  obtain ⟨e1, rfl⟩ := mVar_ok e
  obtain ⟨v, h2, h3⟩ := s.sl i .s d hm e1
  exact ⟨v, h2, k v H F as Gr.refl r h3⟩
theorem jok_w {K : Frag} {mg : Str → Option Value} {N : Addr → Prop} {H F : Hp} {as : List Addr} {v : V} {ds : List D} (hv : rW K P N H F as v (.lst ds)) :
    ∃ a xs, v = .ref a ∧ Rps K F as xs ds ∧ ∀ (H2 F2 : Hp) (as2 : List Addr), GrS P H F as H2 F2 as2 → (∃ O, RlO K mg O H2 F2 as2) → RdK K H2 a xs := by
  rcases hv with hv | ⟨a, xs, ds', rfl, e, e3, e4, e5, e6⟩
  · obtain ⟨a, xs, rfl, h1, h2⟩ := hv.unL
    exact ⟨a, xs, rfl, h2, fun H2 F2 as2 g ⟨O, r⟩ => (h1.mono g.ff).mono r.fh⟩
  · cases e
    exact ⟨a, xs, rfl, e6, fun H2 F2 as2 g _ => .inl (.inl (g.fr _ _ e5 e3 e4 rfl))⟩
theorem vi_list {tg e : Expr} {m : M D} (h : WE X md P e m) : VI X md P tg e (mList m) := (pi_list h).imp fun σ H Q q => by
  obtain ⟨ρ, O, F, as, ds, O', r, s, e, k⟩ := q
  obtain ⟨d, O1, e1, e⟩ := Res.bind_ok e
  cases d with
  | lst es =>
    cases e
    refine ⟨ρ, _, F, as, _, _, r, s, e1, fun v H1 F1 as1 g1 r1 hv => ?_⟩
    obtain ⟨a, xs, rfl, h1, h2⟩ := jok_w (mg := X.mg) hv
    exact ⟨a, rfl, ⟨xs, (h2 H1 F1 as1 GrS.refl ⟨_, r1⟩).sq⟩, k _ H1 F1 as1 g1 r1 (jok_list h1 h2)⟩
  | _ => cases e
theorem vi_tup {tg e : Expr} {m : M D} (h : VE X md P e m) : VI X md P tg e (mTupI m) := (pi_tup h).imp fun σ H Q q => by
  obtain ⟨ρ, O, F, as, ds, O', r, s, e, k⟩ := q
  obtain ⟨d, O1, e1, e⟩ := Res.bind_ok e
  cases d with
  | tup es =>
    cases e
    refine ⟨ρ, _, F, as, _, _, r, s, e1, fun v H1 F1 as1 g1 r1 hv => ?_⟩
    obtain ⟨a, xs, rfl, h1, h2⟩ := Rp.unT hv
    have hp : ∀ (H2 F2 : Hp) (as2 : List Addr), GrS P H1 F1 as1 H2 F2 as2 → (∃ O, RlO X.K X.mg O H2 F2 as2) → SqT X.K H2 a xs := fun H2 F2 as2 g ⟨O, r⟩ => Same.seqT r.fh (Same.seqT g.ff h1)
    refine ⟨a, rfl, ⟨xs, hp H1 F1 as1 GrS.refl ⟨_, r1⟩⟩, k _ H1 F1 as1 g1 r1 ⟨fun i d H2 F2 as2 g r e => ?_, fun H2 F2 as2 g r => ⟨xs, hp H2 F2 as2 g r, by rw [h2.length]; exact Nat.le_refl _⟩⟩⟩
    obtain ⟨x, h3, h4⟩ := h2.get' e
    have q := hp H2 F2 as2 g r
    refine ⟨⟨xs, x, q, h3⟩, fun y H3 hy => ?_⟩
    obtain ⟨rfl, hy⟩ := hy
    have := hy xs q
    rw [h3] at this
    cases this
    exact ⟨F2, Gr.refl, fun _ r => r, h4.grS g⟩
  | _ => cases e
def signsD (l : List Nat) : List D := l.map fun c => .str [c]
def mStrI (m : M D) : M (List D) := fun ρ O => (m ρ O).bind fun d O1 => match d with
  | .str l => if ascii l = true then .ok (signsD l) O1 else .no
  | _ => .no
theorem jok_same {K : Frag} {mg : Str → Option Value} {J : It} {ds : List D} {H F : Hp} {as : List Addr} (h1 : ∀ (i : Nat) (d : D) (H2 : Hp), ds[i]? = some d → J.go i H2 ∧ ∀ x H3, J.yld i H2 x H3 → H3 = H2 ∧ ∀ K F as, Rp K F as x d) (h2 : ∀ H2, J.stop ds.length H2) : JOk K mg P J ds H F as :=
  ⟨fun i d H2 F2 as2 _ _ e => ⟨(h1 i d H2 e).1, fun x H3 y => by
    obtain ⟨rfl, hx⟩ := (h1 i d H2 e).2 x H3 y
    exact ⟨F2, Gr.refl, fun _ r => r, hx _ _ _⟩⟩, fun H2 _ _ _ _ => h2 H2⟩
theorem vi_str {tg e : Expr} {m : M D} (h : SE X md P e m) : VI X md P tg e (mStrI m) := (pi_str h).imp fun σ H Q q => by
  obtain ⟨ρ, O, F, as, ds, O', r, s, e, k⟩ := q
  obtain ⟨d, O1, e1, e⟩ := Res.bind_ok e
  cases d with
  | str l =>
    dsimp only at e
    split at e
    · rename_i hl
      cases e
      refine ⟨ρ, _, F, as, _, _, r, s, e1, fun v H1 F1 as1 g1 r1 hv => ?_⟩
      refine ⟨l, (Sv.rp hv rfl).unS, hl, k _ H1 F1 as1 g1 r1 (jok_same (fun i d H2 e => ?_) fun H2 => by simp [signsD, Its])⟩
      unfold signsD at e
      rw [List.getElem?_map] at e
      cases q : l[i]? with
      | none => rw [q] at e; cases e
      | some c =>
        rw [q] at e
        cases e
        refine ⟨(List.getElem?_eq_some_iff.mp q).1, fun x H3 y => ?_⟩
        obtain ⟨e1, c', e2, rfl⟩ := y
        rw [q] at e2
        cases e2
        exact ⟨e1, fun _ _ _ => Rp.str⟩
    · cases e
  | _ => cases e
def rangeD (lo : Int) (n : Nat) : List D := (List.range n).map fun (k : Nat) => .int (lo + (k : Int))
def mRng1 (m : M (List D)) : M (List D) := fun ρ O => (m ρ O).bind fun ds O1 => match ds with
  | [.int j] => if j ≤ 1000000000 ∧ -1000000000 ≤ j then .ok (rangeD 0 j.toNat) O1 else .no
  | _ => .no
theorem jok_range {K : Frag} {mg : Str → Option Value} {lo : Int} {n : Nat} {H F : Hp} {as : List Addr} : JOk K mg P (Itr lo n) (rangeD lo n) H F as := jok_same (fun i d H2 e => by
  unfold rangeD at e
  rw [List.getElem?_map] at e
  by_cases hi : i < n
  · rw [List.getElem?_range hi] at e
    cases e
    refine ⟨hi, fun x H3 y => ?_⟩
    obtain ⟨e1, rfl⟩ := y
    exact ⟨e1, fun _ _ _ => Rp.int⟩
  · rw [List.getElem?_eq_none (by simpa using hi)] at e
    cases e) fun H2 => by simp [rangeD, Itr]
theorem ArgsR.one {K : Frag} {H F : Hp} {as : List Addr} {m : Md} {vs : List V} {d : D} (h : ArgsR K H F as [m] vs [d]) : ∃ v, vs = [v] ∧ rA K m (fun _ => True) H F as v d := by
  cases vs with
  | nil => exact h.elim
  | cons v vs =>
    cases vs with
    | nil => exact ⟨v, rfl, h.1⟩
    | cons u us => exact h.2.elim
theorem vi_range1 {tg a : Expr} {p pos : Pos} {m : M (List D)} (hm : X.mg "range" = none) (ha : AE X md P [.s] [a] m) (hg : Gl X "range" := by rfl) (hs : starEach [a] X.env = [(false, eval a X.env)] := by exact star1 rfl) : VI X md P tg (.Call (.Name "range" p) [a] [] pos) (mRng1 m) := (pi_range1 hg hm ha hs).imp fun σ H Q q => by
  obtain ⟨ρ, O, F, as, ds, O', r, s, e, k⟩ := q
  obtain ⟨es, O1, e1, e⟩ := Res.bind_ok e
  split at e
  · rename_i j
    split at e
    · rename_i hj
      cases e
      refine ⟨ρ, _, F, as, _, _, r, s, e1, fun vs H1 F1 as1 g1 r1 hv => ?_⟩
      obtain ⟨v, rfl, hv1⟩ := hv.one
      have := (Sv.rp hv1 rfl).unI
      subst this
      exact ⟨j, rfl, by omega, by omega, k _ H1 F1 as1 g1 r1 jok_range⟩
    · cases e
  · cases e
def enumD : Nat → List D → List D
  | _, [] => []
  | k, d :: ds => .tup [.int k, d] :: enumD (k + 1) ds
variable {elts : List Expr} {x1 : Nat} {tpos : Pos}
def strsD : List D → Option (List (List Nat))
  | [] => some []
  | .str l :: ds => (strsD ds).map (l :: ·)
  | _ => none
def mJoin (m : M D) : M D := fun ρ O => (m ρ O).bind fun d O1 => match deref O1 d with
  | .lst ds => match strsD ds with
    | some ls => if (ls.map List.length).sum ≤ 1000000 then .ok (.str ls.flatten) O1 else .no
    | none => .no
  | _ => .no
def mStarts (mo m : M D) : M D := fun ρ O => (mo ρ O).bind fun a O1 => (m ρ O1).bind fun b O2 => match a, b with
  | .str l, .str n => .ok (.bl (decide (l.take n.length = n))) O2
  | _, _ => .no
end
end L2
namespace L2
open PySem PySem.Spec PyProof.Rows
section
variable {K : Frag} {mg : Str → Option Value} {md : List Md} {P : Pt} {ρ : DEnv} {σ : St} {H F : Hp} {as : List Addr} {O : Store} {i : Nat} {a : Addr} {xs xs' : List V} {ds ds' : List D}
theorem SlO.own (s : SlO K md P ρ σ H F as) (hm : md[i]? = some .o) (hρ : ρ[i]? = some (some (.lst ds))) : ∃ a xs, σ[i]? = some (some (.ref a)) ∧ H a = some (.lst xs) ∧ F a = none ∧ a ∉ as ∧ ¬ P a ∧ Rps K F as xs ds := by
  obtain ⟨v, h1, h2⟩ := s.sl i .o _ hm hρ
  rcases h2 with ⟨h2, _⟩ | ⟨a, xs, es, rfl, e2, e3, e0, e4, e5, e6⟩
  · cases h2
  · cases e2
    exact ⟨a, xs, h1, e3, e0, e4, e5, e6⟩
theorem SlO.mut (s : SlO K md P ρ σ H F as) (hm : md[i]? = some .o) (hρ : ρ[i]? = some (some (.lst ds))) (hσ : σ[i]? = some (some (.ref a))) (hF : F a = none) (ha : a ∉ as) (hP : ¬ P a) (r : Rps K F as xs' ds') : SlO K md P (ρ.set i (some (.lst ds'))) σ (upd H a (.lst xs')) F as := by
  have hi : i < md.length := (List.getElem?_eq_some_iff.mp hm).1
  refine ⟨s.len, by rw [List.length_set]; exact s.len', fun c p => ?_, fun j m d e1 e2 => ?_, fun j k c es fs h1 h2 h3 h4 h5 h6 => ?_, fun x hx => ?_⟩
  · have := s.pd c p
    unfold upd
    split
    · exact fun z => nomatch z
    · exact this
  · by_cases h : i = j
    · subst h
      rw [hm] at e1; cases e1
      rw [List.getElem?_set_self (by rw [s.len']; exact hi)] at e2
      cases e2
      exact ⟨_, hσ, .inr ⟨a, xs', ds', rfl, rfl, upd_same, hF, ha, hP, r⟩⟩
    · rw [List.getElem?_set_ne h] at e2
      obtain ⟨v, q1, q2⟩ := s.sl j m d e1 e2
      refine ⟨v, q1, ?_⟩
      cases m with
      | v => exact q2
      | s =>
        rcases q2 with q2 | ⟨c, ys, es, z1, z2, z3, z4, z5, z6⟩
        · exact .inl q2
        · exact .inr ⟨c, ys, es, z1, z2, by rw [upd_ne (fun z => hP (by rw [← z]; exact z5))]; exact z3, z4, z5, z6⟩
      | o =>
        rcases q2 with q2 | ⟨c, ys, es, z1, z2, z3, z0, z4, z5, z6⟩
        · exact .inl q2
        · refine .inr ⟨c, ys, es, z1, z2, ?_, z0, z4, z5, z6⟩
          rw [upd_ne]
          · exact z3
          · intro z
            subst z z1 z2
            exact h (s.inj i j c ds es hm e1 hρ e2 hσ q1)
  · have f : ∀ k es, (ρ.set i (some (.lst ds')))[k]? = some (some (D.lst es)) → ∃ es', ρ[k]? = some (some (D.lst es')) := fun k es q => by
      by_cases h : i = k
      · subst h; exact ⟨ds, hρ⟩
      · rw [List.getElem?_set_ne h] at q; exact ⟨es, q⟩
    obtain ⟨es', q3⟩ := f j es h3
    obtain ⟨fs', q4⟩ := f k fs h4
    exact s.inj j k c es' fs' h1 h2 q3 q4 h5 h6
  · obtain ⟨p1, p2, p3⟩ := s.pin x hx
    have hne : i ≠ x.1 := fun z => by rw [← z, hm] at p1; cases p1
    exact ⟨p1, by rw [List.getElem?_set_ne hne]; exact p2, p3⟩
theorem mut_gr (hH : H a ≠ none) (hP : ¬ P a) {o : HO} : GrS P H F as (upd H a o) F as :=
  ⟨fun _ _ _ => rfl, Same.refl F, ⟨[], by simp, fun _ h => nomatch h⟩, fun c u p e _ _ => by rw [upd_ne (fun z => hP (by rw [← z]; exact p))]; exact e, fun c e => by
    by_cases h : c = a
    · subst h; rw [upd_same] at e; cases e
    · rwa [upd_ne h] at e⟩
theorem RlO.mut (r : RlO K mg O H F as) (hF : F a = none) (ha : a ∉ as) {o : HO} : RlO K mg O (upd H a o) F as := by
  refine ⟨fun c u e => ?_, r.fd, r.nd, r.len, r.fa, fun n c u hc hu => (r.ob n c u hc hu).keep (upd_ne ?_) (Same.refl F) fun _ _ h => h⟩
  · rw [upd_ne (ne_of_none e hF)]; exact r.fh c u e
  · intro z; subst z; exact ha (List.mem_of_getElem? hc)
end
section
variable {X : Cx} {md : List Md} {P : Pt} {R : RR}
def msApp (i : Nat) (m : M D) : MS := fun ρ O => match m ρ O with
  | .ok d O' => match ρ[i]? with
    | some (some (.lst ds)) => if ds.length < 1000000 then .nx (ρ.set i (some (.lst (ds ++ [d])))) O' else .no
    | _ => .no
  | .ex x O' => .ex x O'
  | .no => .no
theorem msApp_inv {i : Nat} {m : M D} {ρ : DEnv} {O : Store} (K : Frag) (mg : Str → Option Value) {D : Ends} {H F : Hp} {as : List Addr} (k : FlOk K mg md P R D H F as (msApp i m ρ O)) :
    ∃ d O' ds, m ρ O = .ok d O' ∧ ρ[i]? = some (some (.lst ds)) ∧ ds.length < 1000000 ∧ FlOk K mg md P R D H F as (.nx (ρ.set i (some (.lst (ds ++ [d])))) O') := by
  unfold msApp at k
  split at k
  · rename_i d O' e
    split at k
    · rename_i ds e2
      split at k
      · rename_i hz
        exact ⟨d, O', ds, e, e2, hz, k⟩
      · exact False.elim k
    · exact False.elim k
  · exact False.elim k
  · exact False.elim k
theorem vs_append (i : Nat) {x : Str} {p apos cpos pos : Pos} {e : Expr} {m : M D} (h : VE X md P e m) (hm : md[i]? = some .o := by rfl) (hN : X.N[i]? = some x := by rfl) (hv : Vis X.env.scope x := by first | exact Or.inl rfl | exact Or.inr (Or.inl rfl) | exact Or.inr (Or.inr rfl))
    (hd : (x == ("__debug__" : Str)) = false := by decide) (hcd : (x == ("__classdict__" : Str)) = false := by decide)
    (hbase : attributeBase (.Name x p) "append" X.env (eval (.Name x p) X.env) = eval (.Name x p) X.env := by rfl)
    (hfew : ((backTo cpos (starEach [e] X.env)).all (fun x => !x.1) && (backToKw cpos (keywordEach [] X.env)).all (fun x => x.1.isSome) && decide ([e].length + ([] : List Keyword).length + (if ([] : List Keyword).isEmpty then 0 else 1) < 30)) = true := by rfl)
    (hline : (apos.endLine == cpos.line) = true := by rfl) (hs : starEach [e] X.env = (false, eval e X.env) :: starEach [] X.env := by exact starC rfl) (hplain : (backTo cpos (starEach [] X.env)).any (·.1) = false := by exact starAny rfl)
    (hsw : swapsWith (.Call (.Attribute (.Name x p) "append" apos) [e] [] cpos) none pos.line X.env = pure false := by rfl) :
    VS X md P R (.Expr (.Call (.Attribute (.Name x p) "append" apos) [e] [] cpos) pos) (msApp i m) :=
  (ps_expr (pe_bm PySem.F.plainAttrs_list PySem.F.slot_list_append PySem.F.type_list_append mt_append (pe_var (i := i) hN hv hd hcd) (pa_cons h pa_nil hs) hbase hfew hline hs hplain) hsw).imp fun D σ H q => by
    obtain ⟨ρ, O, F, as, r, s, k⟩ := q
    obtain ⟨d, O', ds, e, e2, hz, k⟩ := msApp_inv X.K X.mg k
    obtain ⟨a, xs, h1, h2, h3, h4, h5, h6⟩ := s.own hm e2
    refine ⟨_, h1, .inl ⟨rfl, xs, .inl (.inl h2)⟩, ρ, O, F, as, d, O', r, s, e, fun y H1 F1 as1 g1 r1 hy => ?_⟩
    have s1 := s.step g1
    have hn : H a ≠ none := by rw [h2]; exact fun z => nomatch z
    have q2 := g1.fr _ _ h2 h4 rfl
    have q3 : F1 a = none := by rw [g1.fz a hn]; exact h3
    have q4 := g1.out h4 hn
    have hn1 : H1 a ≠ none := by rw [q2]; exact fun z => nomatch z
    exact ⟨a, xs, y, rfl, rfl, q2, by rw [h6.length]; exact Nat.lt_of_lt_of_le hz (by decide), k σ _ F1 as1 (g1.toS.trans (mut_gr hn1 h5)) (r1.mut q3 q4) (s1.mut hm e2 h1 q3 q4 h5 ((h6.gr g1).snoc hy))⟩
def rExtR (K : Frag) : V → List V → Hp → VK → Prop := fun x vs H Q => ∃ l b xs zs, x = .ref l ∧ vs = [.ref b] ∧ H l = some (.lst xs) ∧ RdK K H b zs ∧ xs.length + zs.length ≤ sizeLine ∧ Q .non (upd H l (.lst (xs ++ zs)))
theorem mt_extR : MtM X "list.extend" (rExtR X.K) := by
  intro pins s σ H x vs v us Q I rx rv h
  obtain ⟨l, b, xs, zs, rfl, rfl, hH, hB, hz, q⟩ := h
  cases rx
  obtain ⟨u, rfl, ru⟩ := rv.one
  cases ru
  obtain ⟨z, its, n, r, hl, e⟩ := I.lstM hH
  obtain ⟨z2, its2, n2, r2, e2⟩ := hB.ok I
  have hl2 := r2.length
  have hsz : its.toArray.size + its2.toArray.size ≤ sizeLine := by rw [List.size_toArray, List.size_toArray]; omega
  have hlong : ¬ (!its.toArray.isEmpty && Builtin.List.listTooLong (its.toArray.size + its2.toArray.size)) = true := by
    rw [notLongL hsz, Bool.and_false]
    exact Bool.false_ne_true
  refine call_meets F.slot_list_extend ⟨_, e, rfl⟩ F.entry_list_extend (F.args_list_extend_2 _ _)
    (AutoSeq1.list_extend_list_list_0 l its.toArray n b its2.toArray n2 hlong (by rw [List.size_toArray]; omega) (by omega)) ⟨e, e2, ?_⟩
  refine ⟨.non, _, I.lset (its' := its ++ its2) hH e (by simp) (r.append r2) ?_, rfl, q⟩
  rw [List.length_append]
  omega
def msExt (i : Nat) (m : M D) : MS := fun ρ O => match m ρ O with
  | .ok d O' => match ρ[i]?, deref O' d with
    | some (some (.lst ds)), .lst es => if ds.length + es.length ≤ 1000000 then .nx (ρ.set i (some (.lst (ds ++ es)))) O' else .no
    | _, _ => .no
  | .ex x O' => .ex x O'
  | .no => .no
def msClear (i : Nat) : MS := fun ρ O => match ρ[i]? with
  | some (some (.lst _)) => .nx (ρ.set i (some (.lst []))) O
  | _ => .no
theorem vs_clear (i : Nat) {x : Str} {p apos cpos pos : Pos} (hm : md[i]? = some .o := by rfl) (hN : X.N[i]? = some x := by rfl) (hv : Vis X.env.scope x := by first | exact Or.inl rfl | exact Or.inr (Or.inl rfl) | exact Or.inr (Or.inr rfl))
    (hd : (x == ("__debug__" : Str)) = false := by decide) (hcd : (x == ("__classdict__" : Str)) = false := by decide)
    (hbase : attributeBase (.Name x p) "clear" X.env (eval (.Name x p) X.env) = eval (.Name x p) X.env := by rfl) (hline : (apos.endLine == cpos.line) = true := by rfl)
    (hsw : swapsWith (.Call (.Attribute (.Name x p) "clear" apos) [] [] cpos) none pos.line X.env = pure false := by rfl) :
    VS X md P R (.Expr (.Call (.Attribute (.Name x p) "clear" apos) [] [] cpos) pos) (msClear i) :=
  (ps_expr (pe_bm0 PySem.F.plainAttrs_list PySem.F.slot_list_clear PySem.F.type_list_clear mt_clear (pe_var (i := i) hN hv hd hcd) hbase hline) hsw).imp fun D σ H q => by
    obtain ⟨ρ, O, F, as, r, s, k⟩ := q
    unfold msClear at k
    split at k
    · rename_i ds e2
      obtain ⟨a, xs, h1, h2, h3, h4, h5, h6⟩ := s.own hm e2
      have hn : H a ≠ none := by rw [h2]; exact fun z => nomatch z
      exact ⟨_, h1, .inl ⟨rfl, xs, .inl (.inl h2)⟩, a, xs, rfl, rfl, h2, k σ _ F as (mut_gr hn h5) (r.mut h3 h4) (s.mut hm e2 h1 h3 h4 h5 Rps.nil)⟩
    · exact False.elim k
end
def putD (f : Str) (v : D) : List (Str × D) → List (Str × D)
  | [] => [(f, v)]
  | (g, x) :: r => if g = f then (g, v) :: r else (g, x) :: putD f v r
section
variable {K : Frag} {F : Hp} {as : List Addr}
theorem FsR.cons_inv {gs : List (Str × V)} {f : Str} {d : D} {fs : List (Str × D)} (h : FsR K F as gs ((f, d) :: fs)) : ∃ v gs', gs = (f, v) :: gs' ∧ Rp K F as v d ∧ FsR K F as gs' fs := by
  obtain ⟨h1, h2⟩ := h
  cases gs with
  | nil => cases h1
  | cons g gs' =>
    obtain ⟨g1, g2⟩ := g
    simp only [List.map_cons, List.cons.injEq] at h1
    obtain ⟨x, r, e, h3, h4⟩ := h2.un
    simp only [List.map_cons, List.cons.injEq] at e
    obtain ⟨rfl, rfl⟩ := e
    exact ⟨g2, gs', by rw [h1.1], h3, ⟨h1.2, h4⟩⟩
theorem FsR.nil_inv {gs : List (Str × V)} (h : FsR K F as gs []) : gs = [] := List.map_eq_nil_iff.mp h.nm
theorem FsR.get : ∀ {fs : List (Str × D)} {gs : List (Str × V)} {f : Str} {d : D}, FsR K F as gs fs → fs.lookup f = some d → ∃ v, gs.lookup f = some v ∧ Rp K F as v d
  | [], _, _, _, _, e => by cases e
  | (g, x) :: fs, gs, f, d, h, e => by
    obtain ⟨v, gs', rfl, h1, h2⟩ := h.cons_inv
    rw [List.lookup_cons] at e ⊢
    cases q : f == g with
    | true =>
      rw [q] at e
      cases e
      exact ⟨v, rfl, h1⟩
    | false =>
      rw [q] at e
      exact FsR.get h2 e
theorem FsR.no : ∀ {fs : List (Str × D)} {gs : List (Str × V)} {f : Str}, FsR K F as gs fs → fs.lookup f = none → gs.lookup f = none
  | [], _, _, h, e => by rw [h.nil_inv]; rfl
  | (g, x) :: fs, gs, f, h, e => by
    obtain ⟨v, gs', rfl, h1, h2⟩ := h.cons_inv
    rw [List.lookup_cons] at e ⊢
    cases q : f == g with
    | true => rw [q] at e; cases e
    | false =>
      rw [q] at e
      exact FsR.no h2 e
theorem FsR.put {f : Str} {v : V} {d : D} (hv : Rp K F as v d) : ∀ {fs : List (Str × D)} {gs : List (Str × V)}, FsR K F as gs fs → FsR K F as (putF f v gs) (putD f d fs)
  | [], _, h => by
    rw [h.nil_inv]
    exact ⟨rfl, Rps.cons hv Rps.nil⟩
  | (g, x) :: fs, gs, h => by
    obtain ⟨u, gs', rfl, h1, h2⟩ := h.cons_inv
    rw [putF, putD]
    by_cases q : g = f
    · rw [if_pos q, if_pos q]
      exact ⟨by simp [h2.nm], Rps.cons hv h2.vl⟩
    · rw [if_neg q, if_neg q]
      have ih := FsR.put (f := f) hv h2
      exact ⟨by simp [ih.nm], Rps.cons h1 ih.vl⟩
theorem FsR.length {fs : List (Str × D)} {gs : List (Str × V)} (h : FsR K F as gs fs) : gs.length = fs.length := by
  have := congrArg List.length h.nm
  simpa using this
theorem RlO.set {mg : Str → Option Value} {O : Store} {H : Hp} {n : Nat} {a : Addr} {o : Ob} {u : HO} (r : RlO K mg O H F as) (ha : as[n]? = some a) (ho : ObR K mg (upd H a u) F as a o) : RlO K mg (O.set n o) (upd H a u) F as := by
  have hF := r.fa a (List.mem_of_getElem? ha)
  refine ⟨fun c w e => ?_, r.fd, r.nd, by rw [List.length_set]; exact r.len, r.fa, fun k c w hc hw => ?_⟩
  · rw [upd_ne (ne_of_none e hF)]; exact r.fh c w e
  · by_cases h : n = k
    · subst h
      rw [ha] at hc; cases hc
      rw [List.getElem?_set_self (by rw [← r.len]; exact (List.getElem?_eq_some_iff.mp ha).1)] at hw
      cases hw
      exact ho
    · rw [List.getElem?_set_ne h] at hw
      refine (r.ob k c w hc hw).keep (upd_ne ?_) (Same.refl F) fun _ _ h => h
      intro z
      subst z
      obtain ⟨l1, q1⟩ := List.getElem?_eq_some_iff.mp ha
      obtain ⟨l2, q2⟩ := List.getElem?_eq_some_iff.mp hc
      exact h ((List.getElem_inj r.nd).mp (q1.trans q2.symm))
end
def KC (K : Frag) (mg : Str → Option Value) (c f : Str) : Prop := ∃ C, mg c = some (.ref C) ∧ Cls K C ∧ NoAttr K C f
section
variable {X : Cx} {md : List Md} {P : Pt} {R : RR}
def mFld (cs : List Str) (f : Str) (m : M D) : M D := fun ρ O => (m ρ O).bind fun d O1 => match d with
  | .ob n => match O1[n]? with
    | some (.ins c fs) => if c ∈ cs then match fs.lookup f with
      | some y => .ok y O1
      | none => .no else .no
    | _ => .no
  | _ => .no
theorem ve_fld {cs : List Str} {f : Str} {o : Expr} {pos : Pos} {m : M D} (hc : ∀ c ∈ cs, KC X.K X.mg c f) (h : VE X md P o m) (hb : attributeBase o f X.env (eval o X.env) = eval o X.env := by rfl) : VE X md P (.Attribute o f pos) (mFld cs f m) := (pe_fld h hb).imp fun σ H Q q => by
  obtain ⟨ρ, O, F, as, d, O', r, s, e, k⟩ := q
  obtain ⟨x, O1, e1, e⟩ := Res.bind_ok e
  cases x with
  | ob n =>
    dsimp only at e
    split at e
    · rename_i c fs eo
      split at e
      · rename_i hcs
        split at e
        · rename_i y ey
          cases e
          refine ⟨ρ, _, F, as, _, _, r, s, e1, fun v H1 F1 as1 g1 r1 hv => ?_⟩
          obtain ⟨a, rfl, ha⟩ := Rp.unO hv
          obtain ⟨C, dx, gs, h1, h2, h3⟩ := r1.ob n a _ ha eo
          obtain ⟨C', h4, h5, h6⟩ := hc c hcs
          rw [h1] at h4; cases h4
          obtain ⟨w, h7, h8⟩ := h3.get ey
          exact ⟨a, C, dx, gs, w, rfl, h2, h5, h6, h7, k w H1 F1 as1 g1 r1 h8⟩
        · cases e
      · cases e
    · cases e
  | _ => cases e
def msFld (cs : List Str) (f : Str) (mo mv : M D) : MS := fun ρ O => match mv ρ O with
  | .ok d O1 => match mo ρ O1 with
    | .ok (.ob n) O2 => match O2[n]? with
      | some (.ins c fs) => if c ∈ cs ∧ fs.length < 900 then .nx ρ (O2.set n (.ins c (putD f d fs))) else .no
      | _ => .no
    | _ => .no
  | .ex x O' => .ex x O'
  | .no => .no
theorem vs_fld {cs : List Str} {f : Str} {o value : Expr} {pos pos' : Pos} {mo mv : M D} (hc : ∀ c ∈ cs, KC X.K X.mg c f) (ho : VE X md P o mo) (hv : VE X md P value mv) (hs : swapsWith value (some (.Attribute o f pos')) pos.line X.env = pure false := by rfl) : VS X md P R (.Assign [.Attribute o f pos'] value pos) (msFld cs f mo mv) := (ps_fld ho hv hs).imp fun D σ H q => by
  obtain ⟨ρ, O, F, as, r, s, k⟩ := q
  unfold msFld at k
  split at k
  · rename_i d O1 e1
    split at k
    · rename_i n O2 e2
      split at k
      · rename_i c fs eo
        split at k
        · rename_i hcs
          refine ⟨ρ, O, F, as, d, O1, r, s, e1, fun y H1 F1 as1 g1 r1 hy => ?_⟩
          refine ⟨ρ, O1, F1, as1, .ob n, O2, r1, s.step g1, e2, fun z H2 F2 as2 g2 r2 hz => ?_⟩
          have g := g1.trans g2
          obtain ⟨a, rfl, ha⟩ := Rp.unO hz
          obtain ⟨C, dx, gs, h1, h2, h3⟩ := r2.ob n a _ ha eo
          obtain ⟨C', h4, h5, h6⟩ := hc c hcs.1
          rw [h1] at h4; cases h4
          have hmem := List.mem_of_getElem? ha
          have hn : H2 a ≠ none := by rw [h2]; exact fun z => nomatch z
          have gg : Gr H2 F2 as2 (upd H2 a (.ins C dx (putF f y gs))) F2 as2 := ⟨fun _ _ => rfl, Same.refl _, ⟨[], by simp, fun _ h => nomatch h⟩, fun b u e hb _ => by rw [upd_ne (fun z => hb (by rw [z]; exact hmem))]; exact e, fun b e => by
            by_cases h : b = a
            · subst h; rw [upd_same] at e; cases e
            · rwa [upd_ne h] at e⟩
          refine ⟨a, C, dx, gs, rfl, h2, h5, h6, by rw [h3.length]; omega, ?_⟩
          exact k σ _ F2 as2 (g.trans gg).toS (r2.set ha ⟨C, dx, _, h1, upd_same, h3.put (Rp.gr hy g2)⟩) ((s.step g).step gg)
        · exact False.elim k
      · exact False.elim k
    · exact False.elim k
  · exact False.elim k
  · exact False.elim k
end
section
variable {Pr : Program} {w : World} {K : Frag} {mg : Str → Option Value} {base : Heap}
theorem vfun {x qual : Str} {st : Stmt} {f : Addr} {fd : FuncData} {N ps : List Str} {k : Nat} (Fn : Fun K x qual st f fd) (S : FnScope N ps (defScope st))
    (pm lm : List Md) {R : RR} {b : MS} (hR : RRok R) (hR0 : ∀ N H F as, R N H F as .non .non) (hpl : pm.length = ps.length) (hl : (pm ++ lm).length = N.length) (hp : ∀ m ∈ pm, m ≠ .o)
    (body : ∀ (cdv : Value) (A : Around) (outer : List Env) (s : Shared) (H : Hp) (E : XK), Room k (A.deeper (envOfC qual (defScope st) s.heap.objs.size f cdv)) → ∀ P, VSs ((cxOf CX0 Pr w K mg base N qual (defScope st) f cdv A outer s H E).nox) (pm ++ lm) P R (defBody st) b) :
    FnOk Pr w K mg base CX0 (k + 1) f fd ps (vSp K mg pm R (mFun N.length b)) := by
  refine Fn.ok S (fun vs H Q E h => ?_) (fun cdv A outer s H vs Q E hr h => ?_)
  · obtain ⟨ds, O, F, as, d, O', r, a, _⟩ := h
    rw [a.len.1, hpl]
  · obtain ⟨ds, O, F, as, d, O', r, a, e, q⟩ := h
    refine ⟨_, body cdv A outer s H E hr (Pt.all H), ?_⟩
    refine ⟨_, O, F, as, r, start_slots a hl hp, ?_⟩
    unfold mFun at e
    cases eb : b (ds.map some ++ List.replicate (N.length - ds.length) none) O with
    | rt d' O2 =>
      rw [eb] at e
      cases e
      exact fun v H' F' as' g r' hv => q v H' F' as' g.gr r' (hR _ _ _ _ _ _ _ (fun c hc => Classical.not_not.mp hc) hv)
    | nx ρ O2 =>
      rw [eb] at e
      cases e
      exact fun σ' H' F' as' g r' _ => q _ H' F' as' g.gr r' (hR0 _ _ _ _)
    | bk _ _ => rw [eb] at e; cases e
    | ct _ _ => rw [eb] at e; cases e
    | ex _ _ => rw [eb] at e; cases e
    | no => rw [eb] at e; cases e
def DefM (K : Frag) (mg : Str → Option Value) (c m qual : Str) (st : Stmt) : Prop := ∃ C f fd, mg c = some (.ref C) ∧ Cls K C ∧ Meth K C m f ∧ Fun K m qual st f fd
def CanM (P : Program) (w : World) (K : Frag) (mg : Str → Option Value) (base : Heap) (c m : Str) (ps : List Str) (k : Nat) (sp : Sp) : Prop :=
  ∃ C f fd, mg c = some (.ref C) ∧ Cls K C ∧ Meth K C m f ∧ Binds K fd ps [] ∧ FnOk P w K mg base CX0 k f fd ps sp
def CanC (P : Program) (w : World) (K : Frag) (mg : Str → Option Value) (base : Heap) (c : Str) (ps : List Str) (k : Nat) (sp : Sp) : Prop :=
  ∃ C f fd, mg c = some (.ref C) ∧ Mk K C f ∧ Binds K fd ps [] ∧ FnOk P w K mg base CX0 k f fd ps sp
def DefC (K : Frag) (mg : Str → Option Value) (c qual : Str) (st : Stmt) : Prop := ∃ C f fd, mg c = some (.ref C) ∧ Mk K C f ∧ Fun K "__init__" qual st f fd
theorem vdefM {c x qual : Str} {st : Stmt} {N ps : List Str} {k : Nat} (Df : DefM K mg c x qual st) (S : FnScope N ps (defScope st))
    (hb : ∀ (kV doc pm : Value) (an : Option Addr) (cdv ct : Value) (us : List Value), us.length = ps.length → bindArgs (PySem.W.fnOf x qual (defArgs st) (defBody st) (defScope st) .none kV doc pm an cdv ct) ⟨us, []⟩ = pure (ps.zip us))
    (pm lm : List Md) {R : RR} {b : MS} (hR : RRok R) (hR0 : ∀ N H F as, R N H F as .non .non) (hpl : pm.length = ps.length := by rfl) (hl : (pm ++ lm).length = N.length := by rfl) (hp : ∀ m ∈ pm, m ≠ .o := by decide)
    (body : ∀ (f : Addr) (cdv : Value) (A : Around) (outer : List Env) (s : Shared) (H : Hp) (E : XK), Room k (A.deeper (envOfC qual (defScope st) s.heap.objs.size f cdv)) → ∀ P, VSs ((cxOf CX0 Pr w K mg base N qual (defScope st) f cdv A outer s H E).nox) (pm ++ lm) P R (defBody st) b) :
    CanM Pr w K mg base c x ps (k + 1) (vSp K mg pm R (mFun N.length b)) := by
  obtain ⟨C, f, fd, h1, h2, h3, h4⟩ := Df
  exact ⟨C, f, fd, h1, h2, h3, h4.binds hb, vfun h4 S pm lm hR hR0 hpl hl hp (body f)⟩
theorem vdefC {c qual : Str} {st : Stmt} {N ps : List Str} {k : Nat} (Df : DefC K mg c qual st) (S : FnScope N ps (defScope st))
    (hb : ∀ (kV doc pm : Value) (an : Option Addr) (cdv ct : Value) (us : List Value), us.length = ps.length → bindArgs (PySem.W.fnOf "__init__" qual (defArgs st) (defBody st) (defScope st) .none kV doc pm an cdv ct) ⟨us, []⟩ = pure (ps.zip us))
    (pm lm : List Md) {R : RR} {b : MS} (hR : RRok R) (hR0 : ∀ N H F as, R N H F as .non .non) (hpl : pm.length = ps.length := by rfl) (hl : (pm ++ lm).length = N.length := by rfl) (hp : ∀ m ∈ pm, m ≠ .o := by decide)
    (body : ∀ (f : Addr) (cdv : Value) (A : Around) (outer : List Env) (s : Shared) (H : Hp) (E : XK), Room k (A.deeper (envOfC qual (defScope st) s.heap.objs.size f cdv)) → ∀ P, VSs ((cxOf CX0 Pr w K mg base N qual (defScope st) f cdv A outer s H E).nox) (pm ++ lm) P R (defBody st) b) :
    CanC Pr w K mg base c ps (k + 1) (vSp K mg pm R (mFun N.length b)) := by
  obtain ⟨C, f, fd, h1, h2, h4⟩ := Df
  exact ⟨C, f, fd, h1, h2, h4.binds hb, vfun h4 S pm lm hR hR0 hpl hl hp (body f)⟩
end
section
variable {X : Cx} {md : List Md} {P : Pt} {R : RR} {k : Nat} {c m : Str} {ps : List Str} {p pos apos : Pos} {o e : Expr} {es : List Expr} {pm : List Md} {cf : List D → Store → Res D} {mo : M D} {ma : M (List D)}
def mMeth (c m : Str) (cf : List D → Store → Res D) (mo : M D) (ma : M (List D)) : M D := fun ρ O => (mo ρ O).bind fun d O1 => match d with
  | .ob n => match O1[n]? with
    | some (.ins c' fs) => if c' = c ∧ (fs.lookup m).isNone = true then (ma ρ O1).bind fun ds O2 => cf (.ob n :: ds) O2 else .no
    | _ => .no
  | _ => .no
theorem meth_go {K : Frag} {mg : Str → Option Value} {C : Addr} (hR : RRok R) (hC : mg c = some (.ref C)) {E : XK} {σ : St} {H : Hp} {Q : VK} (q : tM K mg md P R (mMeth c m cf mo ma) σ H Q) :
    tMeth C m (vSp K mg (.v :: pm) R cf) [] E (tM K mg md P (rV K) mo) (tMA K mg md P pm ma) σ H Q := by
  obtain ⟨ρ, O, F, as, d, O', r, s, e, k⟩ := q
  obtain ⟨x, O1, e1, e⟩ := Res.bind_ok e
  cases x with
  | ob n =>
    dsimp only at e
    split at e
    · rename_i c' fs eo
      split at e
      · rename_i hc
        obtain ⟨ds, O2, e2, e⟩ := Res.bind_ok e
        refine ⟨ρ, O, F, as, .ob n, O1, r, s, e1, fun v H1 F1 as1 g1 r1 hv => ?_⟩
        obtain ⟨a, rfl, ha⟩ := Rp.unO hv
        obtain ⟨C', dx, gs, h1, h2, h3⟩ := r1.ob n a _ ha eo
        rw [hc.1, hC] at h1; cases h1
        refine ⟨a, dx, gs, rfl, h2, h3.no (Option.isNone_iff_eq_none.mp hc.2), ?_⟩
        refine ⟨ρ, O1, F1, as1, ds, O2, r1, s.step g1, e2, fun vs H2 F2 as2 g2 r2 hvs => ?_⟩
        dsimp only
        rw [List.append_nil]
        exact ⟨.ob n :: ds, O2, F2, as2, d, O', r2, ⟨Rp.gr hv g2, hvs⟩, e, fun v' H' F' as' g' r' hw => k v' H' F' as' ((g1.trans g2).trans g') r' (hR _ _ _ _ _ _ _ (fun b hb => (g1.trans g2).dm b hb) hw)⟩
      · cases e
    · cases e
  | _ => cases e
theorem xe_meth {pl : Sem Bool} (hR : RRok R) (M : CanM X.prog X.w X.K X.mg X.base c m ps k (vSp X.K X.mg (.v :: pm) R cf)) (hr : Room k X.A) (ho : VE X md P o mo) (ha : AE X md P pm (e :: es) ma)
    (hst : starEach (e :: es) X.env = (false, eval e X.env) :: starEach es X.env := by exact starC rfl) (hpl : (backTo pos (starEach es X.env)).any (·.1) = false := by exact starAny rfl)
    (ht : eval (.Call (.Attribute o m apos) (e :: es) [] pos) X.env = (do
      let ov ← eval o X.env
      standAt apos.atName
      let (f, first) ← holding [ov] (getMethod ov m pl)
      callWith pos f first (backTo pos (starEach (e :: es) X.env)) (backToKw pos (keywordEach [] X.env))) := by rfl) :
    PE X (.Call (.Attribute o m apos) (e :: es) [] pos) (tM X.K X.mg md P R (mMeth c m cf mo ma)) := by
  obtain ⟨C, f, fd, h1, h2, h3, h4, h5⟩ := M
  exact (pe_meth (pl := pl) (E := E0) (ds := []) (dvs := []) ho h2 h3 h5 hr h4 .nil pass0 ha hst hpl ht).imp fun _ _ _ q => meth_go hR h1 q
theorem xe_meth0 {pl : Sem Bool} (hR : RRok R) (M : CanM X.prog X.w X.K X.mg X.base c m ps k (vSp X.K X.mg [.v] R cf)) (hr : Room k X.A) (ho : VE X md P o mo)
    (ht : eval (.Call (.Attribute o m apos) [] [] pos) X.env = (do
      let ov ← eval o X.env
      standAt apos.atName
      let (f, first) ← holding [ov] (getMethod ov m pl)
      callWith pos f first (backTo pos (starEach [] X.env)) (backToKw pos (keywordEach [] X.env))) := by rfl) :
    PE X (.Call (.Attribute o m apos) [] [] pos) (tM X.K X.mg md P R (mMeth c m cf mo maNil)) := by
  obtain ⟨C, f, fd, h1, h2, h3, h4, h5⟩ := M
  refine (pe_meth0 (pl := pl) (E := E0) (ds := []) (dvs := []) ho h2 h3 h5 hr h4 .nil pass0 ht).imp fun σ H Q q => ?_
  obtain ⟨ρ, O, F, as, d, O', r, s, e, k⟩ := meth_go (pm := []) (E := E0) hR h1 q
  refine ⟨ρ, O, F, as, d, O', r, s, e, fun v H' F' as' g r' hv => ?_⟩
  obtain ⟨a, dx, fs, e1, e2, e3, t⟩ := k v H' F' as' g r' hv
  refine ⟨a, dx, fs, e1, e2, e3, ?_⟩
  obtain ⟨ρ1, O1, F1, as1, ds1, O2, r1, s1, e4, k4⟩ := t
  cases e4
  exact k4 [] H' F1 as1 Gr.refl r1 trivial
def mMake (c : Str) (cf : List D → Store → Res D) (ma : M (List D)) : M D := fun ρ O => (ma ρ O).bind fun ds O1 => match cf (.ob O1.length :: ds) (O1 ++ [.ins c []]) with
  | .ok .non O2 => .ok (.ob O1.length) O2
  | .ok _ _ => .no
  | .ex x O2 => .ex x O2
  | .no => .no
theorem make_go {K : Frag} {mg : Str → Option Value} {C : Addr} (hC : mg c = some (.ref C)) {E : XK} {σ : St} {H : Hp} {Q : VK} (q : tM K mg md P (rV K) (mMake c cf ma) σ H Q) :
    tMake C (vSp K mg (.v :: pm) (rV K) cf) [] E (tMA K mg md P pm ma) σ H Q := by
  obtain ⟨ρ, O, F, as, d, O', r, s, e, k⟩ := q
  obtain ⟨ds, O1, e1, e⟩ := Res.bind_ok e
  split at e
  · rename_i O2 ec
    cases e
    refine ⟨ρ, O, F, as, ds, O1, r, s, e1, fun vs H1 F1 as1 g1 r1 hvs => ?_⟩
    intro x dx hx hdx hne
    rw [List.append_nil]
    have hx2 : upd H1 dx (.own x) x = none := by rw [upd_ne hne.symm]; exact hx
    have gA : Gr H1 F1 as1 (upd H1 dx (.own x)) F1 as1 := Gr.lay hdx
    have gB : Gr (upd H1 dx (.own x)) F1 as1 (upd (upd H1 dx (.own x)) x (.ins C dx [])) F1 as1 := Gr.lay hx2
    have gC : Gr (upd (upd H1 dx (.own x)) x (.ins C dx [])) F1 as1 (upd (upd H1 dx (.own x)) x (.ins C dx [])) F1 as1 := Gr.refl
    have gAB := gA.trans gB
    have g2 : Gr H1 F1 as1 (upd (upd H1 dx (.own x)) x (.ins C dx [])) F1 (as1 ++ [x]) := ⟨gAB.fz, gAB.ff, ⟨[x], rfl, fun a ha => by rw [List.mem_singleton.mp ha]; exact hx⟩, fun a o e ha hd => gAB.fr a o e ha hd, gAB.dm⟩
    have nx : x ∉ as1 := fun z => r1.all z hx
    have rB := (r1.lay (o := .own x) hdx).lay (o := .ins C dx []) hx2
    have at_ : ∀ (n : Nat) (a : Addr), as1[n]? = some a → (as1 ++ [x])[n]? = some a := fun n a h => by
      rw [List.getElem?_append_left (List.getElem?_eq_some_iff.mp h).1]; exact h
    have r2 : RlO K mg (O1 ++ [.ins c []]) (upd (upd H1 dx (.own x)) x (.ins C dx [])) F1 (as1 ++ [x]) := by
      refine ⟨rB.fh, rB.fd, ?_, by simp [r1.len], fun a ha => ?_, fun n a o ha ho => ?_⟩
      · rw [List.nodup_append]
        refine ⟨r1.nd, by simp, fun a ha b hb => ?_⟩
        rw [List.mem_singleton.mp hb]
        intro z
        subst z
        exact nx ha
      · rcases List.mem_append.mp ha with z | z
        · exact r1.fa a z
        · rw [List.mem_singleton.mp z]
          exact r1.frF hx
      · by_cases hn : n < O1.length
        · rw [List.getElem?_append_left (by rw [r1.len]; exact hn)] at ha
          rw [List.getElem?_append_left hn] at ho
          exact (rB.ob n a o ha ho).keep rfl (Same.refl _) at_
        · have hn' : n = O1.length := by
            have := (List.getElem?_eq_some_iff.mp ho).1
            simp at this
            omega
          subst hn'
          rw [List.getElem?_append_right (Nat.le_refl _), Nat.sub_self] at ho
          rw [← r1.len, List.getElem?_append_right (Nat.le_refl _), Nat.sub_self] at ha
          cases ho
          cases ha
          exact ⟨C, dx, [], hC, upd_same, ⟨rfl, Rps.nil⟩⟩
    have hox : Rp K F1 (as1 ++ [x]) (.ref x) (.ob O1.length) := Rp.mkO (by rw [← r1.len, List.getElem?_append_right (Nat.le_refl _), Nat.sub_self]; rfl)
    refine ⟨.ob O1.length :: ds, _, F1, as1 ++ [x], .non, _, r2, ⟨hox, hvs.gr g2⟩, ec, fun v H3 F3 as3 g3 r3 hv => ?_⟩
    exact ⟨Rp.unN hv, k _ H3 F3 as3 ((g1.trans g2).trans g3) r3 (Rp.gr hox g3)⟩
  · cases e
  · cases e
  · cases e
theorem ve_make (M : CanC X.prog X.w X.K X.mg X.base c ps k (vSp X.K X.mg (.v :: pm) (rV X.K) cf)) (hr : Room (k + 1) X.A) (ha : AE X md P pm (e :: es) ma) (hg : Gl X c := by rfl) (hdb : (c == ("__debug__" : Str)) = false := by decide)
    (he : starEach (e :: es) X.env = (false, eval e X.env) :: starEach es X.env := by exact starC rfl) (hpl : (backTo pos (starEach es X.env)).any (·.1) = false := by exact starAny rfl) : VE X md P (.Call (.Name c p) (e :: es) [] pos) (mMake c cf ma) := by
  obtain ⟨C, f, fd, h1, h3, h4, h5⟩ := M
  exact (pe_make (E := E0) (ds := []) (dvs := []) h3 h5 hr hg h1 h4 .nil pass0 ha hdb he hpl).imp fun _ _ _ q => make_go h1 q
end
end L2
namespace L2
open PySem PySem.Spec PyProof.Rows
section
variable {X : Cx} {md : List Md} {P : Pt} {R : RR}
def gIs (neg : Bool) : D → D → Option D
  | .bl a, .bl b => some (.bl (neg ^^ (a == b)))
  | _, _ => none
theorem od_is : OpD X (compareOp .Is) (gIs false) := by
  intro pins s σ H x y v u Q I rx ry h
  obtain ⟨O, F, as, dx, dy, d, r, hx, hy, e, k⟩ := h
  cases dx with
  | bl a =>
    cases (hx.rp rfl).unB
    cases dy with
    | bl b =>
      cases (hy.rp rfl).unB
      cases e
      refine op_isB pins s σ H _ _ v u Q I rx ry ⟨a, b, rfl, rfl, ?_⟩
      rw [Bool.false_xor] at k
      exact k_val r k rfl Rp.bl
    | _ => cases e
  | _ => cases e
def iterD : D → Option (List D)
  | .lst ds => some ds
  | .tup ds => some ds
  | .str l => if ascii l = true then some (signsD l) else none
  | _ => none
def mIter (m : M D) : M (List D) := fun ρ O => (m ρ O).bind fun d O1 => match iterD d with
  | some ds => .ok ds O1
  | none => .no
theorem se_we {e : Expr} {m : M D} (h : WE X md P e m) : SE X md P e m := h.imp fun σ H Q q => by
  obtain ⟨ρ, O, F, as, d, O', r, s, e, k⟩ := q
  refine ⟨ρ, O, F, as, d, O', r, s, e, fun v H' F' as' g r' hv => k v H' F' as' g r' ?_⟩
  rcases hv with hv | ⟨a, xs, ds, e1, e2, e3, e4, e5, e6⟩
  · exact .inl hv
  · exact .inr ⟨a, xs, ds, e1, e2, e3, e4, e6⟩
theorem vi_any {tg e : Expr} {m : M D} (h : WE X md P e m) : VI X md P tg e (mIter m) := fun pins s σ H Q I q => by
  obtain ⟨ρ, O, F, as, ds, O', r, sl, e, k⟩ := q
  obtain ⟨d, O1, e1, e⟩ := Res.bind_ok e
  cases d with
  | lst es =>
    cases e
    exact vi_list h pins s σ H Q I ⟨ρ, O, F, as, _, _, r, sl, by unfold mList; rw [e1]; rfl, k⟩
  | tup es =>
    cases e
    exact vi_tup (ve_se (se_we h)) pins s σ H Q I ⟨ρ, O, F, as, _, _, r, sl, by unfold mTupI mG; rw [e1]; rfl, k⟩
  | str l =>
    simp only [iterD] at e
    split at e
    · rename_i es hes
      split at hes
      · rename_i hl
        cases hes
        cases e
        refine vi_str (se_we h) pins s σ H Q I ⟨ρ, O, F, as, signsD l, _, r, sl, ?_, k⟩
        unfold mStrI
        rw [e1]
        show (if ascii l = true then _ else _) = _
        rw [if_pos hl]
      · cases hes
    · cases e
  | _ => cases e
theorem vic_seen {tg e : Expr} {m : M D} (h : SE X md P e m) : VIc X md P tg e (mList m) := (pi_list h).imp fun σ H Q q => by
  obtain ⟨ρ, O, F, as, ds, O', r, s, e, k⟩ := q
  obtain ⟨d, O1, e1, e⟩ := Res.bind_ok e
  cases d with
  | lst es =>
    cases e
    refine ⟨ρ, _, F, as, _, _, r, s, e1, fun v H1 F1 as1 g1 r1 hv => ?_⟩
    obtain ⟨a, xs, rfl, h1, h2⟩ : ∃ a xs, v = .ref a ∧ Rps X.K F1 as1 xs ds ∧ ∀ (H2 F2 : Hp) (as2 : List Addr), Gr H1 F1 as1 H2 F2 as2 → (∃ O, RlO X.K X.mg O H2 F2 as2) → RdK X.K H2 a xs := by
      rcases hv with hv | ⟨a, xs, ds', rfl, e, e3, e4, e6⟩
      · obtain ⟨a, xs, rfl, h1, h2⟩ := hv.unL
        exact ⟨a, xs, rfl, h2, fun H2 F2 as2 g ⟨O, r⟩ => (h1.mono g.ff).mono r.fh⟩
      · cases e
        exact ⟨a, xs, rfl, e6, fun H2 F2 as2 g _ => .inl (.inl (g.fr _ _ e3 e4 rfl))⟩
    refine ⟨a, rfl, ⟨xs, (h2 H1 F1 as1 Gr.refl ⟨_, r1⟩).sq⟩, k _ H1 F1 as1 g1 r1 ⟨fun i d H2 F2 as2 g r e => ?_, fun H2 F2 as2 g r => ⟨xs, (h2 H2 F2 as2 g r).sq, by rw [h1.length]; exact Nat.le_refl _⟩⟩⟩
    obtain ⟨x, h3, h4⟩ := h1.get' e
    have q := h2 H2 F2 as2 g r
    refine ⟨⟨xs, x, q.sq, h3⟩, fun y H3 hy => ?_⟩
    obtain ⟨rfl, hy⟩ := hy
    have := hy xs q.sq
    rw [h3] at this
    cases this
    exact ⟨F2, Gr.refl, fun _ r => r, h4.gr g⟩
  | _ => cases e
theorem vic_any {tg e : Expr} {m : M D} (h : SE X md P e m) : VIc X md P tg e (mIter m) := fun pins s σ H Q I q => by
  obtain ⟨ρ, O, F, as, ds, O', r, sl, e, k⟩ := q
  obtain ⟨d, O1, e1, e⟩ := Res.bind_ok e
  cases d with
  | lst es =>
    cases e
    exact vic_seen h pins s σ H Q I ⟨ρ, O, F, as, _, _, r, sl, by unfold mList; rw [e1]; rfl, k⟩
  | tup es =>
    cases e
    exact vic_vi (vi_tup (ve_se h)) pins s σ H Q I ⟨ρ, O, F, as, _, _, r, sl, by unfold mTupI mG; rw [e1]; rfl, k⟩
  | str l =>
    simp only [iterD] at e
    split at e
    · rename_i es hes
      split at hes
      · rename_i hl
        cases hes
        cases e
        refine vic_vi (vi_str h) pins s σ H Q I ⟨ρ, O, F, as, signsD l, _, r, sl, ?_, k⟩
        unfold mStrI
        rw [e1]
        show (if ascii l = true then _ else _) = _
        rw [if_pos hl]
      · cases hes
    · cases e
  | _ => cases e
def mEnum (m : M D) : M (List D) := fun ρ O => (m ρ O).bind fun d O1 => match d with
  | .lst ds => .ok (enumD 0 ds) O1
  | .str l => if ascii l = true then .ok (enumD 0 (signsD l)) O1 else .no
  | _ => .no
variable {elts : List Expr} {x1 : Nat} {tpos : Pos}
def pinsOf (sl : List Nat) (ρ : DEnv) (σ : St) : List (Nat × V × D) := sl.filterMap fun j => match ρ[j]?, σ[j]? with
  | some (some d), some (some v) => some (j, v, d)
  | _, _ => none
theorem of_pinsOf {sl : List Nat} {ρ : DEnv} {σ : St} {x : Nat × V × D} (h : x ∈ pinsOf sl ρ σ) : x.1 ∈ sl ∧ ρ[x.1]? = some (some x.2.2) ∧ σ[x.1]? = some (some x.2.1) := by
  obtain ⟨j, hj, e⟩ := List.mem_filterMap.mp h
  split at e
  · rename_i d v e1 e2
    cases e
    exact ⟨hj, e1, e2⟩
  · cases e
theorem mem_pinsOf {sl : List Nat} {ρ : DEnv} {σ : St} {j : Nat} {v : V} {d : D} (h : j ∈ sl) (e1 : ρ[j]? = some (some d)) (e2 : σ[j]? = some (some v)) : (j, v, d) ∈ pinsOf sl ρ σ :=
  List.mem_filterMap.mpr ⟨j, h, by simp only [e1, e2]⟩
def Pt.with (P : Pt) (a : Addr) (i : Nat) (d : D) (l : List (Nat × V × D)) : Pt := ⟨fun c => P c ∨ c = a, (i, .ref a, d) :: (l ++ P.ss)⟩
theorem SlO.protect {K : Frag} {ρ : DEnv} {σ : St} {H F : Hp} {as : List Addr} {i : Nat} {a : Addr} {xs : List V} {ds : List D} {sl : List Nat} (s : SlO K md P ρ σ H F as) (hm : md[i]? = some .o) (hsl : ∀ j ∈ sl, md[j]? = some .s) (hρ : ρ[i]? = some (some (.lst ds))) (hσ : σ[i]? = some (some (.ref a))) (hH : H a = some (.lst xs)) (ha : a ∉ as) (hr : Rps K F as xs ds) :
    SlO K (md.set i .s) (P.with a i (.lst ds) (pinsOf sl ρ σ)) ρ σ H F as := by
  have hi : i < md.length := (List.getElem?_eq_some_iff.mp hm).1
  have ns : ∀ j : Nat, md[j]? = some Md.s → i ≠ j := fun j p1 z => by rw [← z, hm] at p1; cases p1
  refine ⟨by rw [List.length_set]; exact s.len, by rw [List.length_set]; exact s.len', fun c p => ?_, fun j m d e1 e2 => ?_, fun j k c es fs h1 h2 h3 h4 h5 h6 => ?_, fun x hx => ?_⟩
  · rcases p with p | p
    · exact s.pd c p
    · rw [p, hH]; exact fun z => nomatch z
  · by_cases h : i = j
    · subst h
      rw [List.getElem?_set_self hi] at e1
      cases e1
      rw [hρ] at e2
      cases e2
      exact ⟨_, hσ, .inr ⟨a, xs, ds, rfl, rfl, hH, ha, .inr rfl, hr⟩⟩
    · rw [List.getElem?_set_ne h] at e1
      obtain ⟨v, q1, q2⟩ := s.sl j m d e1 e2
      refine ⟨v, q1, ?_⟩
      cases m with
      | v => exact q2
      | s =>
        rcases q2 with q2 | ⟨c, ys, es, z1, z2, z3, z4, z5, z6⟩
        · exact .inl q2
        · exact .inr ⟨c, ys, es, z1, z2, z3, z4, .inl z5, z6⟩
      | o =>
        rcases q2 with q2 | ⟨c, ys, es, z1, z2, z3, z0, z4, z5, z6⟩
        · exact .inl q2
        · refine .inr ⟨c, ys, es, z1, z2, z3, z0, z4, ?_, z6⟩
          rintro (z | z)
          · exact z5 z
          · subst z z1 z2
            exact h (s.inj i j c ds es hm e1 hρ e2 hσ q1)
  · have ni : ∀ k, (md.set i .s)[k]? = some Md.o → i ≠ k ∧ md[k]? = some Md.o := fun k q => by
      by_cases h : i = k
      · subst h; rw [List.getElem?_set_self hi] at q; cases q
      · rw [List.getElem?_set_ne h] at q; exact ⟨h, q⟩
    exact s.inj j k c es fs (ni j h1).2 (ni k h2).2 h3 h4 h5 h6
  · rcases List.mem_cons.mp hx with rfl | hx
    · exact ⟨List.getElem?_set_self hi, hρ, hσ⟩
    · rcases List.mem_append.mp hx with hx | hx
      · obtain ⟨q1, q2, q3⟩ := of_pinsOf hx
        have p1 := hsl _ q1
        exact ⟨by rw [List.getElem?_set_ne (ns _ p1)]; exact p1, q2, q3⟩
      · obtain ⟨p1, p2, p3⟩ := s.pin x hx
        exact ⟨by rw [List.getElem?_set_ne (ns _ p1)]; exact p1, p2, p3⟩
theorem SlO.unprotect {K : Frag} {ρ ρ0 : DEnv} {σ σ0 : St} {H F H0 F0 : Hp} {as as0 : List Addr} {i : Nat} {a : Addr} {xs : List V} {ds : List D} {sl : List Nat} (s0 : SlO K md P ρ0 σ0 H0 F0 as0) (g : GrS P H0 F0 as0 H F as)
    (s : SlO K (md.set i .s) (P.with a i (.lst ds) (pinsOf sl ρ0 σ0)) ρ σ H F as) (hm : md[i]? = some .o) (hsl : ∀ j : Nat, md[j]? = some .s → j ∈ sl ∧ ∃ d, ρ0[j]? = some (some d)) (hP : ¬ P a) (hH : H a = some (.lst xs)) (hF : F a = none) (ha : a ∉ as) (hr : Rps K F as xs ds) :
    SlO K md P ρ σ H F as := by
  have hi : i < md.length := (List.getElem?_eq_some_iff.mp hm).1
  obtain ⟨_, pρ, pσ⟩ := s.pin (i, .ref a, .lst ds) List.mem_cons_self
  have hpd : ∀ c, P c → H c ≠ none := fun c p => s.pd c (.inl p)
  have sl1 : ∀ (j : Nat) (m : Md) (d : D), i ≠ j → md[j]? = some m → ρ[j]? = some (some d) → ∃ v, σ[j]? = some (some v) ∧ SlotR P K H F as m v d := fun j m d h e1 e2 => by
    obtain ⟨v, q1, q2⟩ := s.sl j m d (by rw [List.getElem?_set_ne h]; exact e1) e2
    refine ⟨v, q1, ?_⟩
    cases m with
    | v => exact q2
    | s =>
      obtain ⟨m1, d0, m2⟩ := hsl j e1
      obtain ⟨v0, w1, w2⟩ := s0.sl j .s d0 e1 m2
      obtain ⟨_, p2, p3⟩ := s.pin (j, v0, d0) (List.mem_cons_of_mem _ (List.mem_append_left _ (mem_pinsOf m1 m2 w1)))
      dsimp only at p2 p3
      rw [e2] at p2; cases p2
      rw [q1] at p3; cases p3
      rcases w2 with w2 | ⟨c, ys, es, z1, z2, z3, z4, z5, z6⟩
      · exact .inl (w2.grS g)
      · exact .inr ⟨c, ys, es, z1, z2, g.fr _ _ z5 z3 z4 rfl, g.out z4 (by rw [z3]; exact fun z => nomatch z), z5, z6.grS g⟩
    | o =>
      rcases q2 with q2 | ⟨c, ys, es, z1, z2, z3, z0, z4, z5, z6⟩
      · exact .inl q2
      · exact .inr ⟨c, ys, es, z1, z2, z3, z0, z4, fun z => z5 (.inl z), z6⟩
  have ow : ∀ (j : Nat) (c : Addr) (es : List D), i ≠ j → md[j]? = some .o → ρ[j]? = some (some (.lst es)) → σ[j]? = some (some (.ref c)) → c ≠ a := fun j c es h e1 e2 e3 z => by
    obtain ⟨v, q1, q2⟩ := s.sl j .o _ (by rw [List.getElem?_set_ne h]; exact e1) e2
    rw [e3] at q1; cases q1
    rcases q2 with ⟨q2, _⟩ | ⟨c', ys, es', z1, z2, z3, z0, z4, z5, z6⟩
    · cases q2
    · cases z1
      exact z5 (.inr z)
  refine ⟨by rw [← List.length_set (i := i) (a := Md.s)]; exact s.len, by rw [← List.length_set (i := i) (a := Md.s)]; exact s.len', hpd, fun j m d e1 e2 => ?_, fun j k c es fs h1 h2 h3 h4 h5 h6 => ?_, fun x hx => ?_⟩
  · by_cases h : i = j
    · subst h
      rw [hm] at e1; cases e1
      rw [pρ] at e2; cases e2
      exact ⟨_, pσ, .inr ⟨a, xs, ds, rfl, rfl, hH, hF, ha, hP, hr⟩⟩
    · exact sl1 j m d h e1 e2
  · by_cases hj : i = j
    · by_cases hk : i = k
      · rw [← hj, ← hk]
      · subst hj
        rw [pσ] at h5; cases h5
        exact absurd rfl (ow k _ fs hk h2 h4 h6)
    · by_cases hk : i = k
      · subst hk
        rw [pσ] at h6; cases h6
        exact absurd rfl (ow j _ es hj h1 h3 h5)
      · exact s.inj j k c es fs (by rw [List.getElem?_set_ne hj]; exact h1) (by rw [List.getElem?_set_ne hk]; exact h2) h3 h4 h5 h6
  · obtain ⟨p1, p2, p3⟩ := s.pin x (List.mem_cons_of_mem _ (List.mem_append_right _ hx))
    obtain ⟨w1, _, _⟩ := s0.pin x hx
    exact ⟨w1, p2, p3⟩
def msPro (i : Nat) (sl : List Nat) (ms : MS) : MS := fun ρ O => match ρ[i]? with
  | some (some (.lst _)) => if sl.all (fun j => match ρ[j]? with | some (some _) => true | _ => false) = true then ms ρ O else .no
  | _ => .no
theorem vs_pro (i : Nat) (sl : List Nat) {md' : List Md} {st : Stmt} {ms : MS} (hR : RRok R) (h : ∀ P, VS X md' P R st ms) (hm : md[i]? = some .o := by rfl) (hmd : md.set i .s = md' := by rfl)
    (hsl : ((List.range md.length).all fun j => (md[j]? == some .s) == sl.contains j) = true := by rfl) (hsl2 : (sl.all fun j => decide (j < md.length)) = true := by rfl) : VS X md P R st (msPro i sl ms) := fun pins s σ H D I q => by
  subst hmd
  obtain ⟨ρ, O, F, as, r, s, k⟩ := q
  have hs1 : ∀ j : Nat, md[j]? = some .s ↔ j ∈ sl := fun j => by
    rw [List.all_eq_true] at hsl hsl2
    constructor
    · intro e
      have := hsl j (List.mem_range.mpr (List.getElem?_eq_some_iff.mp e).1)
      rw [e] at this
      simpa using this
    · intro e
      have lt := of_decide_eq_true (hsl2 j e)
      have := hsl j (List.mem_range.mpr lt)
      have e' : sl.contains j = true := by simpa using e
      rw [e'] at this
      simpa using this
  unfold msPro at k
  split at k
  · rename_i ds eρ
    split at k
    · rename_i hset
      obtain ⟨a, xs, h1, h2, h3, h4, h5, h6⟩ := s.own hm eρ
      have sp := s.protect (sl := sl) hm (fun j hj => (hs1 j).mpr hj) eρ h1 h2 h4 h6
      have hset' : ∀ j : Nat, md[j]? = some .s → j ∈ sl ∧ ∃ d, ρ[j]? = some (some d) := fun j e => by
        have hj := (hs1 j).mp e
        refine ⟨hj, ?_⟩
        have := List.all_eq_true.mp hset j hj
        split at this
        · rename_i d ed; exact ⟨d, ed⟩
        · cases this
      have hn : H a ≠ none := by rw [h2]; exact fun z => nomatch z
      have back : ∀ {ρ' σ' H' F' as'}, GrS (P.with a i (.lst ds) (pinsOf sl ρ σ)) H F as H' F' as' → SlO X.K (md.set i .s) (P.with a i (.lst ds) (pinsOf sl ρ σ)) ρ' σ' H' F' as' → GrS P H F as H' F' as' ∧ SlO X.K md P ρ' σ' H' F' as' := fun {ρ' σ' H' F' as'} g s' => by
        have g' : GrS P H F as H' F' as' := g.mono fun c p => .inl p
        exact ⟨g', SlO.unprotect s g' s' hm hset' h5 (g.fr _ _ (.inr rfl) h2 h4 rfl) (by rw [g.fz a (.inr rfl) hn]; exact h3) (g.out h4 hn) (h6.grS g)⟩
      refine h _ pins _ σ H D I ⟨ρ, O, F, as, r, sp, ?_⟩
      cases em : ms ρ O with
      | nx ρ' O' => rw [em] at k; exact fun σ' H' F' as' g r' s' => k σ' H' F' as' (back g s').1 r' (back g s').2
      | bk ρ' O' => rw [em] at k; exact fun σ' H' F' as' g r' s' => k σ' H' F' as' (back g s').1 r' (back g s').2
      | ct ρ' O' => rw [em] at k; exact fun σ' H' F' as' g r' s' => k σ' H' F' as' (back g s').1 r' (back g s').2
      | rt d O' => rw [em] at k; exact fun v H' F' as' g r' hv => k v H' F' as' (g.mono fun c p => .inl p) r' (hR _ _ _ _ _ _ _ (fun c hc p => hc (.inl p)) hv)
      | ex x O' => rw [em] at k; exact k
      | no => rw [em] at k; exact k
    · exact False.elim k
  · exact False.elim k
end
end L2
namespace L2
open PySem PySem.Spec PyProof.Rows
theorem law_callR {P : Program} {w : World} {K : PySem.W.Frag} {mg mb : Str → Option Value} {CX : CXT} {k : Nat} {fa a : Addr} {fd : FuncData} {x : Str} {sp : Sp} {s₁ : Shared} {vs : List Value} {ns : List Int}
    (KX : K.In s₁.heap) (hns : s₁.heap.Ns mainGlobals mg) (hb : s₁.heap.Ns builtinsNs mb) (hbb : ∀ x : Str, x ≠ "__name__" → mb x = bootBuiltins x) (hlim : s₁.heap.NoLimit) (hg : s₁.gens = #[])
    (ha : s₁.heap.get? a = some { cls := .type "list", data := .seq vs.toArray }) (hi : IntsAre vs ns) (hl : ns.length ≤ sizeLine) (hr : Room k callerA)
    (F : ∀ base : Heap, K.In base → base.Ns mainGlobals mg → FnOk P w K mg base CX k fa fd [x] sp) (hbind : ∀ (s : Shared) (u : Value), BindsTo s fd ⟨[u], []⟩ [(x, u)])
    (hsp : ∀ H : Hp, Only H → RdK K H a (ns.map V.int) → sp [.ref a] H (fun v _ => v = .bl true) fun _ _ _ => False)
    (hCX : ∀ H e s', CX [] H s₁ (fun _ _ _ => False) e s' → False) :
    codeAny (model P w) callerA (.call (.ref fa) ⟨[.ref a], []⟩) (fun r s' => r = .ok (.ret (.bool true)) ∧ OldK s₁.heap s'.heap ∧ s'.os = s₁.os ∧ AllBare s'.gens) s₁ := by
  have rv := vals_ints hi
  have lenV := hi.length
  have core : ∀ H : Hp, Only H → RdK K H a (ns.map V.int) → HOk P w H s₁.heap → (∀ b, H b ≠ none → b = a) → (H a ≠ none → K.lookup a = none) →
      codeAny (model P w) callerA (.call (.ref fa) ⟨[.ref a], []⟩) (fun r s' => r = .ok (.ret (.bool true)) ∧ OldK s₁.heap s'.heap ∧ s'.os = s₁.os ∧ AllBare s'.gens) s₁ := by
    intro H hO hS hok hA hK
    have base_of : ∀ {b : Addr} {o : Obj}, s₁.heap.get? b = some o → H b = none → (hidT s₁.heap H).get? b = some o := fun e n => hidT_get e n
    have noA : ∀ {b : Addr} {o : Obj} {es : Array DictEntry} {ep : Nat}, s₁.heap.get? b = some o → o.data = .dict es ep → H b = none := fun {b o es ep} e d => by
      cases q : H b with
      | none => rfl
      | some u =>
        have e' : b = a := hA b (by rw [q]; simp)
        subst e'
        rw [ha] at e; cases e
        have d' : Data.seq vs.toArray _ = Data.dict es ep := d
        cases d'
    have nsK : ∀ {b : Addr} {m : Str → Option Value}, s₁.heap.Ns b m → (hidT s₁.heap H).Ns b m := fun {b m} ⟨o, es, ep, e, d, r⟩ => ⟨o, es, ep, base_of e (noA e d), d, r⟩
    have hKb : K.In (hidT s₁.heap H) := fun b o e => base_of (KX b o e) (by
      cases q : H b with
      | none => rfl
      | some u =>
        have e' : b = a := hA b (by rw [q]; simp)
        subst e'
        rw [hK (by rw [q]; simp)] at e; cases e)
    have hM : Mod K mg (hidT s₁.heap H) := ⟨hKb, nsK hns, ⟨mb, nsK hb, hbb⟩, let ⟨mc, h1, h2⟩ := hlim; ⟨mc, nsK h1, h2⟩⟩
    have e0 : Env0 P w K mg (hidT s₁.heap H) callerA [] s₁ H := ⟨rfl, hM, fun b o e => of_hidT e, Nat.le_of_eq (hidT_size _ _), trivial, fun b hb => absurd (show b ∈ ([] : List Addr) from hb) (by simp), hok, .of_eq hg⟩
    refine codeAny_mono ((F _ hKb (nsK hns)).run callerA [] s₁ H ⟨[.ref a], []⟩ [.ref a] [.ref a] _ _ hr e0 (hbind s₁ (.ref a)) (.cons rfl .nil) (hsp H hO hS)) fun r s' h => ?_
    cases r with
    | error e => exact (hCX H e s' h).elim
    | ok fl =>
      cases fl with
      | next => exact False.elim h
      | brk => exact False.elim h
      | cont => exact False.elim h
      | ret u =>
        obtain ⟨v, H', os, bare, un, hok', r', q⟩ := h
        have q' : v = .bl true := q
        subst q'
        obtain rfl : u = Value.bool true := r'
        refine ⟨rfl, OldK.of_keep fun b o e => ?_, os, bare⟩
        cases q : H b with
        | none => exact un.keep b o e q (by intro z; exact absurd (show b ∈ ([] : List Addr) from z) (by simp)) (by simp)
        | some u =>
          rcases hO b with z | ⟨ob, xs, z⟩
          · rw [q] at z; cases z
          · have z2 := un.frzs b ob _ z
            obtain ⟨e1, _⟩ := hok b _ z
            obtain ⟨e2, _⟩ := hok' b _ z2
            rw [e] at e1; cases e1
            exact e2
  cases hk : K.lookup a with
  | some o =>
    have e := KX a o hk
    rw [ha] at e
    cases e
    refine core (fun _ => none) (fun _ => .inl rfl) (.inr ⟨vs, _, hk, by rw [lenV]; exact hl, rv⟩) (fun b u z => by have z' : (none : Option HO) = some u := z; cases z') (fun b z => absurd rfl z) fun z => absurd rfl z
  | none =>
    refine core (fun b => if b = a then some (.frz { cls := .type "list", data := .seq vs.toArray } (.lst (ns.map V.int))) else none) (fun b => ?_) (.inl (.inr ⟨{ cls := .type "list", data := .seq vs.toArray }, if_pos rfl⟩)) (fun b u z => ?_) (fun b z => ?_) fun _ => hk
    · by_cases hb : b = a
      · exact .inr ⟨_, _, if_pos hb⟩
      · exact .inl (if_neg hb)
    · by_cases hb : b = a
      · have z' := (if_pos hb).symm.trans z
        cases z'
        subst hb
        exact ⟨ha, by rw [List.length_map]; exact hl, vs, _, rv, ha⟩
      · have z' := (if_neg hb).symm.trans z
        cases z'
    · by_cases hb : b = a
      · exact hb
      · exact absurd (if_neg hb) z
theorem walk_ofR {l : PySem.W.OpenLaw} {n k : Nat} {q : Program} {loose : List Str} {XP : (Str → Option Value) → Heap → Prop} {YP : World → Heap → Prop} {d : DefRec} {K : Params → PySem.W.Frag} {CX : World → CXT} {sp : World → Sp} {x : Str}
    (hn : l.most = some n) (hn2 : n ≤ sizeLine) (hdf : d.params.defaults = []) (hr : Room k callerA)
    (hY : ∀ (w : World) (h : Heap), YP w h → (K w.params).In h)
    (F : ∀ (w : World) (mg : Str → Option Value) (fa : Addr) (h : Heap), (K w.params).In h → h.Ns mainGlobals mg → mg d.name = some (.ref fa) →
      ∃ fd : FuncData, (∀ (s : Shared) (u : Value), BindsTo s fd ⟨[u], []⟩ [(x, u)]) ∧
        ∀ base : Heap, (K w.params).In base → base.Ns mainGlobals mg → FnOk l.prog w (K w.params) mg base (CX w) k fa fd [x] (sp w))
    (hsp : ∀ (w : World) (H : Hp) (a : Addr) (ns : List Int), ns.length ≤ n → Only H → RdK (K w.params) H a (ns.map V.int) → sp w [.ref a] H (fun v _ => v = .bl true) fun _ _ _ => False)
    (hCX : ∀ (w : World) (H : Hp) (s : Shared) (e : Value) (s' : Shared), CX w [] H s (fun _ _ _ => False) e s' → False) :
    PySem.W.WalkO q loose XP YP l.row.toRowW d [] (fun f vs => PySem.call f vs) := by
  refine Att.attach_call hn hdf fun w s₀ s₁ mg mb fa o pm cd doc a vs ns G Y ho hd hcd hmg hobj hints hlen hg => ?_
  have KX := hY w _ Y
  obtain ⟨fd, hb, hF⟩ := F w mg fa _ KX G.T.g hmg
  exact law_callR KX G.T.g G.T.b G.T.builtins G.T.nolimit hg hobj hints (Nat.le_trans hlen hn2) hr hF hb (fun H hO hS => hsp w H a ns hlen hO hS) fun H e s' => hCX w H s₁ e s'
theorem kc_nil {K : Frag} {mg : Str → Option Value} {f : Str} : ∀ c ∈ ([] : List Str), KC K mg c f := fun _ h => nomatch h
theorem kc_cons {K : Frag} {mg : Str → Option Value} {f c : Str} {cs : List Str} (h : KC K mg c f) (hr : ∀ c ∈ cs, KC K mg c f) : ∀ c' ∈ c :: cs, KC K mg c' f := fun c' hc => by
  rcases List.mem_cons.mp hc with rfl | hc
  · exact h
  · exact hr c' hc
def sp_law (K : Frag) : Sp := fun vs H Q _ => ∃ (a : Addr) (ns : List Int), vs = [.ref a] ∧ RdK K H a (ns.map V.int) ∧ ns.length ≤ 63 ∧ Only H ∧ ∀ H', Q (.bl true) H'
theorem Rps.ofInts {K : Frag} {F : Hp} {as : List Addr} : ∀ ns : List Int, Rps K F as (ns.map V.int) (ns.map D.int)
  | [] => Rps.nil
  | n :: ns => Rps.cons Rp.int (Rps.ofInts ns)
theorem law_spV {K : Frag} {mg : Str → Option Value} {c : List D → Store → Res D} (h : ∀ ns : List Int, ns.length ≤ 63 → ∃ O', c [.lst (ns.map D.int)] [] = .ok (.bl true) O') : ∀ vs H Q E, sp_law K vs H Q E → vSp K mg [.s] (rV K) c vs H Q E := by
  rintro vs H Q E ⟨a, ns, rfl, hS, hl, hO, q⟩
  obtain ⟨O', e⟩ := h ns hl
  have r : RlO K mg [] H H [] := ⟨Same.refl H, fun b o e => by
    rcases hO b with z | ⟨o', xs, z⟩
    · rw [e] at z; cases z
    · rw [e] at z; cases z; rfl, List.nodup_nil, rfl, (fun _ z => nomatch z), fun n b o z => by cases z⟩
  refine ⟨[.lst (ns.map D.int)], [], H, [], .bl true, O', r, ⟨.inl (Rp.mkL hS (Rps.ofInts ns)), trivial⟩, e, fun v H' F' as' g r' hv => ?_⟩
  rw [Rp.unB hv]
  exact q H'
end L2
namespace L2
open PySem PySem.Spec PyProof.Rows
def keyOf : D → Option Key
  | .int i => some (.inl i)
  | .str l => some (.inr (S l))
  | _ => none
section
variable {X : Cx} {md : List Md} {P : Pt}
def Prs (K : Frag) (F : Hp) (as : List Addr) : List (V × V) → List (D × D) → Prop
  | [], [] => True
  | p :: ps, d :: ds => Rp K F as p.1 d.1 ∧ Rp K F as p.2 d.2 ∧ Prs K F as ps ds
  | _, _ => False
def DPE (X : Cx) (md : List Md) (P : Pt) (pos : Pos) (keys : List (Option Expr)) (values : List Expr) (m : M (List (D × D))) : Prop := ∃ trs : List (TE × TE),
  PPs X pos keys values trs ∧ ∀ σ H Q, (∃ ρ O F as kv O', RlO X.K X.mg O H F as ∧ SlO X.K md P ρ σ H F as ∧ m ρ O = .ok kv O' ∧ ∀ ps H' F' as', Gr H F as H' F' as' → RlO X.K X.mg O' H' F' as' → Prs X.K F' as' ps kv → Q ps H') → tPairs trs σ H Q
def mpNil : M (List (D × D)) := fun _ O => .ok [] O
def mpCons (mk mv : M D) (r : M (List (D × D))) : M (List (D × D)) := fun ρ O => (mk ρ O).bind fun a O1 => (mv ρ O1).bind fun b O2 => (r ρ O2).bind fun ps O3 => .ok ((a, b) :: ps) O3
def keysOf : List (D × D) → Option (List Key)
  | [] => some []
  | (a, _) :: r => (keyOf a).bind fun k => (keysOf r).map (k :: ·)
def mDisp (m : M (List (D × D))) : M D := fun ρ O => (m ρ O).bind fun kv O1 => match keysOf kv with
  | some ks => if ks.Nodup ∧ kv.length ≤ 15 then .ok (.dic (kv.map (·.1)) (kv.map (·.2))) O1 else .no
  | none => .no
end
section
variable {X : Cx} {md : List Md} {P : Pt} {k : Nat} {c x m : Str} {ps : List Str} {p pos apos : Pos} {o e : Expr} {es : List Expr} {pm : List Md} {cf : List D → Store → Res D} {mo : M D} {ma : M (List D)}
theorem ve_call (C : Can X.prog X.w X.K X.mg X.base x ps k (vSp X.K X.mg pm (rV X.K) cf)) (hr : Room k X.A) (ha : AE X md P pm (e :: es) ma) (hg : Gl X x := by rfl) (hdb : (x == ("__debug__" : Str)) = false := by decide) (he : starEach (e :: es) X.env = (false, eval e X.env) :: starEach es X.env := by exact starC rfl) (hpl : (backTo pos (starEach es X.env)).any (·.1) = false := by exact starAny rfl) :
    VE X md P (.Call (.Name x p) (e :: es) [] pos) (mCall cf ma) := xe_call rV_ok C hr ha hg hdb he hpl
theorem oe_call (C : Can X.prog X.w X.K X.mg X.base x ps k (vSp X.K X.mg pm (rO X.K) cf)) (hr : Room k X.A) (ha : AE X md P pm (e :: es) ma) (hg : Gl X x := by rfl) (hdb : (x == ("__debug__" : Str)) = false := by decide) (he : starEach (e :: es) X.env = (false, eval e X.env) :: starEach es X.env := by exact starC rfl) (hpl : (backTo pos (starEach es X.env)).any (·.1) = false := by exact starAny rfl) :
    OE X md P (.Call (.Name x p) (e :: es) [] pos) (mCall cf ma) := xe_call rO_ok C hr ha hg hdb he hpl
theorem ve_call0 (C : Can X.prog X.w X.K X.mg X.base x ps k (vSp X.K X.mg [] (rV X.K) cf)) (hr : Room k X.A) (hg : Gl X x := by rfl) (hdb : (x == ("__debug__" : Str)) = false := by decide) : VE X md P (.Call (.Name x p) [] [] pos) (mCall cf maNil) := xe_call0 rV_ok C hr hg hdb
theorem ve_meth {pl : Sem Bool} (M : CanM X.prog X.w X.K X.mg X.base c m ps k (vSp X.K X.mg (.v :: pm) (rV X.K) cf)) (hr : Room k X.A) (ho : VE X md P o mo) (ha : AE X md P pm (e :: es) ma) (hst : starEach (e :: es) X.env = (false, eval e X.env) :: starEach es X.env := by exact starC rfl) (hpl : (backTo pos (starEach es X.env)).any (·.1) = false := by exact starAny rfl)
    (ht : eval (.Call (.Attribute o m apos) (e :: es) [] pos) X.env = (do
      let ov ← eval o X.env
      standAt apos.atName
      let (f, first) ← holding [ov] (getMethod ov m pl)
      callWith pos f first (backTo pos (starEach (e :: es) X.env)) (backToKw pos (keywordEach [] X.env))) := by rfl) : VE X md P (.Call (.Attribute o m apos) (e :: es) [] pos) (mMeth c m cf mo ma) := xe_meth rV_ok M hr ho ha hst hpl ht
theorem oe_meth {pl : Sem Bool} (M : CanM X.prog X.w X.K X.mg X.base c m ps k (vSp X.K X.mg (.v :: pm) (rO X.K) cf)) (hr : Room k X.A) (ho : VE X md P o mo) (ha : AE X md P pm (e :: es) ma) (hst : starEach (e :: es) X.env = (false, eval e X.env) :: starEach es X.env := by exact starC rfl) (hpl : (backTo pos (starEach es X.env)).any (·.1) = false := by exact starAny rfl)
    (ht : eval (.Call (.Attribute o m apos) (e :: es) [] pos) X.env = (do
      let ov ← eval o X.env
      standAt apos.atName
      let (f, first) ← holding [ov] (getMethod ov m pl)
      callWith pos f first (backTo pos (starEach (e :: es) X.env)) (backToKw pos (keywordEach [] X.env))) := by rfl) : OE X md P (.Call (.Attribute o m apos) (e :: es) [] pos) (mMeth c m cf mo ma) := xe_meth rO_ok M hr ho ha hst hpl ht
theorem ve_meth0 {pl : Sem Bool} (M : CanM X.prog X.w X.K X.mg X.base c m ps k (vSp X.K X.mg [.v] (rV X.K) cf)) (hr : Room k X.A) (ho : VE X md P o mo)
    (ht : eval (.Call (.Attribute o m apos) [] [] pos) X.env = (do
      let ov ← eval o X.env
      standAt apos.atName
      let (f, first) ← holding [ov] (getMethod ov m pl)
      callWith pos f first (backTo pos (starEach [] X.env)) (backToKw pos (keywordEach [] X.env))) := by rfl) : VE X md P (.Call (.Attribute o m apos) [] [] pos) (mMeth c m cf mo maNil) := xe_meth0 rV_ok M hr ho ht
end
end L2
namespace L2
open PySem PySem.Spec PyProof.Rows
section
variable {X : Cx} {md : List Md} {P : Pt} {R : RR} {elts : List Expr} {x1 : Nat} {tpos : Pos}
def zipD : List D → List D → List D
  | d :: ds, e :: es => .tup [d, e] :: zipD ds es
  | _, _ => []
def mZip (ma mb : M D) : M (List D) := fun ρ O => (ma ρ O).bind fun d O1 => (mb ρ O1).bind fun e O2 => match d, e with
  | .lst ds, .lst es => .ok (zipD ds es) O2
  | _, _ => .no
def msFz (m : MS) : MS := fun ρ O => match m ρ O with
  | .rt d O' => .rt d O'
  | _ => .no
end
end L2
namespace L2
open PySem PySem.Spec PyProof.Rows
section
variable {prog : Program} {w : World} {A : Around} {E : Value → Shared → Prop}
end
section
variable {X : Cx} {md : List Md} {P : Pt} {R : RR}
def mMl (m : M D) : M D := fun ρ O => (m ρ O).bind fun d O1 => match d with
  | .lst ds => .ok (.ob O1.length) (O1 ++ [.ml ds])
  | d => .ok d O1
theorem at_snoc {as : List Addr} {a : Addr} : ∀ (n : Nat) (c : Addr), as[n]? = some c → (as ++ [a])[n]? = some c := fun n c h => by
  rw [List.getElem?_append_left (List.getElem?_eq_some_iff.mp h).1]; exact h
theorem RlO.snocMl {K : Frag} {mg : Str → Option Value} {O : Store} {H F : Hp} {as : List Addr} {a : Addr} {xs : List V} {ds : List D} (r : RlO K mg O H F as) (hH : H a = some (.lst xs)) (hF : F a = none) (ha : a ∉ as) (hx : Rps K F as xs ds) : RlO K mg (O ++ [.ml ds]) H F (as ++ [a]) := by
  refine ⟨r.fh, r.fd, List.nodup_append.mpr ⟨r.nd, by simp, fun c hc d hd => by rw [List.mem_singleton.mp hd]; exact fun z => ha (z ▸ hc)⟩, by rw [List.length_append, List.length_append, r.len]; rfl, fun c hc => ?_, fun n c o hc ho => ?_⟩
  · rcases List.mem_append.mp hc with hc | hc
    · exact r.fa c hc
    · rw [List.mem_singleton.mp hc]; exact hF
  · by_cases hn : n < as.length
    · rw [List.getElem?_append_left hn] at hc
      rw [List.getElem?_append_left (by rw [← r.len]; exact hn)] at ho
      exact (r.ob n c o hc ho).keep rfl (Same.refl F) at_snoc
    · have hn' : n = as.length := by
        have := (List.getElem?_eq_some_iff.mp hc).1
        rw [List.length_append, List.length_singleton] at this
        omega
      subst hn'
      rw [List.getElem?_append_right (Nat.le_refl _), Nat.sub_self] at hc
      rw [r.len, List.getElem?_append_right (Nat.le_refl _), Nat.sub_self] at ho
      cases hc
      cases ho
      exact ⟨xs, hH, Rps.mono (Same.refl F) at_snoc _ hx⟩
theorem ve_ml {e : Expr} {m : M D} (h : OE X md P e m) : VE X md P e (mMl m) := h.imp fun σ H Q q => by
  obtain ⟨ρ, O, F, as, d, O', r, s, e, k⟩ := q
  obtain ⟨x, O1, e1, e⟩ := Res.bind_ok e
  refine ⟨ρ, _, F, as, _, _, r, s, e1, fun v H1 F1 as1 g1 r1 hv => ?_⟩
  rcases hv with ⟨hn, hv⟩ | ⟨a, xs, ds, rfl, rfl, e3, e4, e5, e6, e7⟩
  · cases x with
    | lst ds => cases hn
    | _ => cases e; exact k v H1 F1 as1 g1 r1 hv
  · cases e
    obtain ⟨new, en, hnw⟩ := g1.nw
    refine k (.ref a) H1 F1 (as1 ++ [a]) ⟨g1.fz, g1.ff, ⟨new ++ [a], by rw [en, List.append_assoc], fun c hc => ?_⟩, g1.fr, g1.dm⟩ (r1.snocMl e3 e4 e5 e7) (Rp.mkO ?_)
    · rcases List.mem_append.mp hc with hc | hc
      · exact hnw c hc
      · rw [List.mem_singleton.mp hc]; exact e6
    · rw [← r1.len, List.getElem?_append_right (Nat.le_refl _), Nat.sub_self]
      rfl
theorem mutO_gr {H F : Hp} {as : List Addr} {a : Addr} (ha : a ∈ as) {o : HO} : Gr H F as (upd H a o) F as :=
  ⟨fun _ _ => rfl, Same.refl F, ⟨[], by simp, fun _ h => nomatch h⟩, fun c u e hn _ => by rw [upd_ne (fun z => hn (by rw [z]; exact ha))]; exact e, fun c e => by
    by_cases h : c = a
    · subst h; rw [upd_same] at e; cases e
    · rwa [upd_ne h] at e⟩
theorem RlO.mutO {K : Frag} {mg : Str → Option Value} {O : Store} {H F : Hp} {as : List Addr} {n : Nat} {a : Addr} {xs : List V} {ds : List D} (r : RlO K mg O H F as) (hn : as[n]? = some a) (hx : Rps K F as xs ds) : RlO K mg (O.set n (.ml ds)) (upd H a (.lst xs)) F as := by
  have ha := List.mem_of_getElem? hn
  refine ⟨fun c u e => ?_, r.fd, r.nd, by rw [List.length_set]; exact r.len, r.fa, fun m c o hc ho => ?_⟩
  · rw [upd_ne (fun z => by rw [z, r.fa a ha] at e; cases e)]; exact r.fh c u e
  · by_cases hm : m = n
    · subst hm
      rw [hn] at hc
      cases hc
      have hlt : m < O.length := by rw [← r.len]; exact (List.getElem?_eq_some_iff.mp hn).1
      rw [List.getElem?_set_self hlt] at ho
      cases ho
      exact ⟨xs, upd_same, hx⟩
    · rw [List.getElem?_set_ne (Ne.symm hm)] at ho
      refine (r.ob m c o hc ho).keep (upd_ne fun z => hm ?_) (Same.refl F) fun _ _ h => h
      obtain ⟨q0, q1⟩ := List.getElem?_eq_some_iff.mp hc
      obtain ⟨p0, p1⟩ := List.getElem?_eq_some_iff.mp hn
      exact (List.getElem_inj r.nd).mp (q1.trans (z.trans p1.symm))
theorem RlO.ml {K : Frag} {mg : Str → Option Value} {O : Store} {H F : Hp} {as : List Addr} {n : Nat} {a : Addr} {ds : List D} (r : RlO K mg O H F as) (hn : as[n]? = some a) (hO : O[n]? = some (.ml ds)) : ∃ xs, H a = some (.lst xs) ∧ Rps K F as xs ds := r.ob n a _ hn hO
end
end L2
namespace L2
open PySem PySem.Spec PyProof.Rows
def CTup (K : Frag) (mg : Str → Option Value) (x : Str) (ls : List (List Nat)) : Prop := ∃ (a : Addr) (o : Obj) (its : Array Value) (n : Nat), mg x = some (.ref a) ∧ K.lookup a = some o ∧ o.cls = .type "tuple" ∧ o.data = .seq its n ∧ its.size ≤ sizeLine ∧ Vals (ls.map fun l => V.str (S l)) its.toList
theorem Rps.texts {K : Frag} {F : Hp} {as : List Addr} : ∀ ls : List (List Nat), Rps K F as (ls.map fun l => V.str (S l)) (ls.map D.str)
  | [] => Rps.nil
  | l :: ls => Rps.cons Rp.str (Rps.texts ls)
theorem ve_ctup {X : Cx} {md : List Md} {P : Pt} {x : Str} {ls : List (List Nat)} {pos : Pos} (h : CTup X.K X.mg x ls) (hg : Gl X x := by rfl) (hdb : (x == ("__debug__" : Str)) = false := by decide) : VE X md P (.Name x pos) (mC (.tup (ls.map D.str))) := by
  obtain ⟨a, o, its, n, hm, hk, h1, h2, h3, h4⟩ := h
  refine (pe_const (v := .ref a) ⟨_, hm, rfl⟩ hg hdb).imp fun σ H Q q => ?_
  obtain ⟨ρ, O, F, as, d, O', r, s, e, k⟩ := q
  cases e
  exact k _ H F as Gr.refl r (Rp.mkT (.inr ⟨o, its, n, hk, h1, h2, h3, h4⟩) (Rps.texts ls))
theorem bnd0 {α : Type} {p : List α → Prop} (h : p []) : ∀ us : List α, us.length = 0 → p us := fun us e => by
  cases us with
  | nil => exact h
  | cons a as => cases e
theorem bndS {α : Type} {p : List α → Prop} {n : Nat} (h : ∀ a, ∀ us : List α, us.length = n → p (a :: us)) : ∀ us : List α, us.length = n + 1 → p us := fun us e => by
  cases us with
  | nil => cases e
  | cons a as => exact h a as (Nat.succ.inj e)
end L2
namespace L2
open PySem PySem.Spec PyProof.Rows
section
variable {prog : Program} {w : World} {κ : Type} [DecidableEq κ] {knd : HeapKind prog w κ} {A : Around} {E : Value → Shared → Prop} {s : Shared}
end
section
variable {X : Cx} {pins : List (Addr × Obj)} {σ : St} {H : Hp} {s : Shared} {a b : Addr} {v : V} {r : Value} {kvs : List (List Key × V)} {k : List Key} {A : Around} {E : Value → Shared → Prop}
end
section
variable {K : Frag} {mg : Str → Option Value} {O : Store} {H F H' F' : Hp} {as as' : List Addr}
end
section
variable {X : Cx} {md : List Md} {P : Pt} {R : RR}
end
end L2
namespace L2
open PySem PySem.Spec PyProof.Rows
section
variable {X : Cx}
end
end L2
namespace L2
open PySem PySem.Spec PyProof.Rows
section
variable {X : Cx} {md : List Md} {P : Pt} {R : RR}
end
end L2
namespace L2
open PySem PySem.Spec PyProof.Rows
section
variable {K : Frag} {mg : Str → Option Value} {O : Store} {H F : Hp} {as : List Addr}
end
section
variable {X : Cx} {md : List Md} {P : Pt} {R : RR}
end
end L2
namespace L2
open PySem PySem.Spec PyProof.Rows
section
variable {X : Cx} {md : List Md} {P : Pt} {R : RR}
end
end L2
namespace L2
open PySem PySem.Spec PyProof.Rows PySem.W PySem.Calls
section
variable {prog : Program} {w : World} {A : Around} {E : Value → Shared → Prop} {s : Shared} {a : Addr} {vs out : List Value} {p : Array Nat}
def Keeps (s : Shared) (a : Addr) (h' : Heap) : Prop := ∀ b o, b ≠ a → s.heap.get? b = some o → h'.get? b = some o
def SrtOk (prog : Program) (w : World) (A : Around) (s : Shared) (vs : List Value) (p : Array Nat) (h' : Heap) : Prop :=
  ∃ κ, (∀ (Q : SortKind → Shared → Prop) (E : Value → Shared → Prop), Q κ { s with heap := h' } → wpAny (model prog w) A (keyKind' vs.toArray) Q E { s with heap := h' }) ∧
    (∀ G : Array Nat → Shared → Prop, G p { s with heap := h' } → (kas_sort vs.length).kasWp (kas_ask prog w A κ vs) G { s with heap := h' })
theorem srt_body {n : Nat} {P : PySem.Fin → Shared → Prop} (ho : s.heap.get? a = some (seqObj "list" vs.toArray n)) (h64 : vs.length < 64)
    (hk : 2 ≤ vs.length → ∀ h', Keeps s a h' → SrtOk prog w A s vs p h') (h1 : vs.length < 2 → out = vs) (h2 : 2 ≤ vs.length → out = p.toList.map fun i => vs.getD i Value.none)
    (h : ∀ h' c, Keeps s a h' → out.length = vs.length → h'.get? a = some (seqObj "list" out.toArray c) → P (.done (.ret .none)) { s with heap := h' }) :
    wpAny (model prog w) A (Builtin.«list.sort» ⟨[.ref a], []⟩) P E s := by
  have ha : a < s.heap.objs.size := Heap.lt_size ho
  obtain ⟨e1, ho1⟩ : ∃ e1, (s.heap.update a (Obj.mapSeq fun _ => (#[] : Array Value))).get? a = some (seqObj "list" #[] e1) := ⟨_, get?_update_seq ho fun _ => #[]⟩
  have k3 : Keeps s a (((s.heap.update a (Obj.mapSeq fun _ => (#[] : Array Value))).push (seqObj "tuple" vs.toArray 0)).push (seqObj "list" #[] 0)) := fun b o hb e =>
    Heap.get?_push_of_some _ (Heap.get?_push_of_some _ (by rw [Heap.get?_update_ne _ _ _ _ hb]; exact e))
  have ho3 : (((s.heap.update a (Obj.mapSeq fun _ => (#[] : Array Value))).push (seqObj "tuple" vs.toArray 0)).push (seqObj "list" #[] 0)).get? a = some (seqObj "list" #[] e1) := Heap.get?_push_of_some _ (Heap.get?_push_of_some _ ho1)
  have hend : ∀ l : List Value, ∃ c2, ((((s.heap.update a (Obj.mapSeq fun _ => (#[] : Array Value))).push (seqObj "tuple" vs.toArray 0)).push (seqObj "list" #[] 0)).update a (Obj.mapSeq fun _ => l.toArray)).get? a = some (seqObj "list" l.toArray c2) := fun l => ⟨_, get?_update_seq ho3 fun _ => l.toArray⟩
  have kend : ∀ l : List Value, Keeps s a ((((s.heap.update a (Obj.mapSeq fun _ => (#[] : Array Value))).push (seqObj "tuple" vs.toArray 0)).push (seqObj "list" #[] 0)).update a (Obj.mapSeq fun _ => l.toArray)) := fun l b o hb e => by
    rw [Heap.get?_update_ne _ _ _ _ hb]
    exact k3 b o hb e
  rw [list_sort_plain]
  refine wpAny_bind (listItems_at ho rfl ?_)
  refine wpAny_bind (listUpdate_at ho rfl ?_ (by rw [List.size_toArray, sizeLine_eq]; omega) (Nat.zero_le _))
  refine wpAny_bind (seqEpoch_at ho1 rfl ?_)
  refine wpAny_bind (wpAny_newTuple ?_ (by show vs.length ≤ _; rw [sizeLine_eq]; omega))
  refine wpAny_bind (wpAny_newList ?_ (Nat.zero_le _))
  refine wpAny_holding ?_
  show wpAny (model prog w) A _ P E { s with heap := ((s.heap.update a (Obj.mapSeq fun _ => (#[] : Array Value))).push (seqObj "tuple" vs.toArray 0)).push (seqObj "list" #[] 0) }
  dsimp only
  generalize hh3 : ((s.heap.update a (Obj.mapSeq fun _ => (#[] : Array Value))).push (seqObj "tuple" vs.toArray 0)).push (seqObj "list" #[] 0) = h3 at k3 ho3 hend kend
  by_cases hn2 : vs.toArray.size < 2
  · rw [if_pos hn2, if_pos hn2]
    refine wpAny_bind (wpAny_pure ?_)
    rw [StateT.run_pure]
    refine wpAny_bind (wpAny_pure ?_)
    dsimp only
    refine wpAny_bind (seqEpoch_at ho3 rfl ?_)
    have hlen : vs.length < 2 := by rw [List.size_toArray] at hn2; exact hn2
    have em : (vs.toArray.zip vs.toArray).map (·.2) = out.toArray := by
      rw [h1 hlen]
      apply Array.toList_inj.mp
      simp
      exact List.map_snd_zip (Nat.le_refl _)
    refine wpAny_bind (listUpdate_at ho3 rfl ?_ (Nat.zero_le _) (by rw [Array.size_map]; show (pairsOf vs).size ≤ _; rw [pairsOf_size, sizeLine_eq]; omega))
    simp only [bne_self_eq_false, Bool.false_eq_true, if_false]
    obtain ⟨c2, hc2⟩ := hend out
    refine wpAny_pure ?_
    have fin := h _ c2 (kend out) (by rw [h1 hlen]) hc2
    rw [← em] at fin
    exact fin
  · rw [if_neg hn2, if_neg hn2]
    have h2' : 2 ≤ vs.length := by rw [List.size_toArray] at hn2; omega
    obtain ⟨κ, q1, q2⟩ := hk h2' h3 k3
    refine wpAny_bind (q1 _ _ ?_)
    refine wpAny_bind (wpAny_mono (kat_run (Q := fun st' s' => arrOf st' = p.map (kas_item (vs.toArray.zip vs.toArray)) ∧ failedOf st' = none ∧ p.size = vs.length ∧ s' = { s with heap := h3 })
      (G := fun p' s' => p' = p ∧ s' = { s with heap := h3 }) rfl h2' h64 (fun p' st' s' a1 a2 a3 a4 => ⟨by rw [← a4.1]; exact a2, a3, by rw [← a4.1]; exact a1, a4.2⟩) (q2 _ ⟨rfl, rfl⟩)) ?_ fun _ _ e => e)
    rintro ⟨⟨⟩, st'⟩ s' ⟨har, hf, hp, rfl⟩
    dsimp only
    have hout := kat_snds (ks := vs) (vs := vs) rfl har
    rw [← h2 h2'] at hout
    have hol : out.length = vs.length := by rw [h2 h2', List.length_map, Array.length_toList, hp]
    rw [hout]
    refine wpAny_bind (seqEpoch_at ho3 rfl ?_)
    refine wpAny_bind (listUpdate_at ho3 rfl ?_ (Nat.zero_le _) (by rw [List.size_toArray, hol, sizeLine_eq]; omega))
    rw [hf]
    simp only [bne_self_eq_false, Bool.false_eq_true, if_false]
    obtain ⟨c2, hc2⟩ := hend out
    exact wpAny_pure (h _ c2 (kend out) hol hc2)
theorem srt_call {l : Addr} {Q : Value → Shared → Prop} (hl : s.heap.IsList l vs.toArray) (h64 : vs.length < 64)
    (hk : 2 ≤ vs.length → ∀ h', (∀ b o, s.heap.get? b = some o → h'.get? b = some o) → SrtOk prog w A.in1.in1 s vs p h') (h1 : vs.length < 2 → out = vs) (h2 : 2 ≤ vs.length → out = p.toList.map fun i => vs.getD i Value.none)
    (h : ∀ D h' c, s.heap.objs.size ≤ D → (∀ b o, s.heap.get? b = some o → h'.get? b = some o) → out.length = vs.length → h'.get? D = some (seqObj "list" out.toArray c) → Q (.ref D) { s with heap := h' }) :
    wpAny (model prog w) A (call (.builtin "sorted") [.ref l]) Q E s := by
  refine Calls.call_function_entry kind_sorted plain_sorted entry_sorted (args_sorted1 _) ?_
  unfold Builtin.«sorted»
  refine wpAny_bind (m := checkCount "sorted" 1 1 _) (wpAny_pure ?_)
  refine wpAny_bind (collect_list hl ?_ (by rw [sizeLine_eq]; omega))
  refine wpAny_bind (wpAny_newList ?_ (by rw [sizeLine_eq]; omega))
  have hsz : ((s.heap.push (seqObj "list" #[] 0)).update s.heap.objs.size (Obj.mapSeq (· ++ vs.toArray))).objs.size = s.heap.objs.size + 1 := by
    rw [Heap.size_update, size_push']
  have hoL : (((s.heap.push (seqObj "list" #[] 0)).update s.heap.objs.size (Obj.mapSeq (· ++ vs.toArray))).push (seqObj "list" vs.toArray 0)).get? (s.heap.objs.size + 1) = some (seqObj "list" vs.toArray 0) := by
    rw [← hsz]; exact Heap.get?_push_size _ rfl
  have keep : ∀ b o, s.heap.get? b = some o → (((s.heap.push (seqObj "list" #[] 0)).update s.heap.objs.size (Obj.mapSeq (· ++ vs.toArray))).push (seqObj "list" vs.toArray 0)).get? b = some o := fun b o q => by
    have hlt : b < s.heap.objs.size := Heap.lt_size q
    rw [Heap.get?_push_ne _ _ _ (by rw [hsz]; exact Nat.ne_of_lt (Nat.lt_succ_of_lt hlt)), Heap.get?_update_ne _ _ _ _ (Nat.ne_of_lt hlt), Heap.get?_push_ne _ _ _ (Nat.ne_of_lt hlt)]
    exact q
  show wpAny _ _ _ _ _ { s with heap := ((s.heap.push (seqObj "list" #[] 0)).update s.heap.objs.size (Obj.mapSeq (· ++ vs.toArray))).push (seqObj "list" vs.toArray 0) }
  rw [hsz]
  have kp : ∀ h', Keeps { s with heap := ((s.heap.push (seqObj "list" #[] 0)).update s.heap.objs.size (Obj.mapSeq (· ++ vs.toArray))).push (seqObj "list" vs.toArray 0) } (s.heap.objs.size + 1) h' → ∀ b o, s.heap.get? b = some o → h'.get? b = some o := fun h' k b o e =>
    k b o (Nat.ne_of_lt (Nat.lt_succ_of_lt (Heap.lt_size e))) (keep b o e)
  refine wpAny_bind (wpAny_holding (wpAny_call_entry slot_list_sort ⟨_, hoL, rfl⟩ entry_list_sort ?body (args_list_sort _)))
  case body =>
    refine srt_body (s := { s with heap := ((s.heap.push (seqObj "list" #[] 0)).update s.heap.objs.size (Obj.mapSeq (· ++ vs.toArray))).push (seqObj "list" vs.toArray 0) }) hoL h64 (fun h2 h' k => hk h2 h' (kp h' k)) h1 h2 fun h' c k el e => ?_
    exact ⟨_, rfl, wpAny_pure ⟨_, rfl, h _ h' c (Nat.le_succ _) (kp h' k) el e⟩⟩
end
def KasR {α : Type} (cmp : Nat → Nat → Bool → Prop) : KasT α → α → Prop
  | .ret a, r => r = a
  | .ask i j k, r => ∃ b, cmp i j b ∧ KasR cmp (k b) r
theorem KasR.wp {α : Type} {cmp : Nat → Nat → Bool → Prop} {ask : Nat → Nat → (Bool → Shared → Prop) → Shared → Prop} {s : Shared} (hc : ∀ i j b, cmp i j b → ∀ C : Bool → Shared → Prop, C b s → ask i j C s) {G : α → Shared → Prop} {r : α} (hg : G r s) : ∀ t : KasT α, KasR cmp t r → t.kasWp ask G s
  | .ret a, h => by
    cases (show r = a from h)
    exact hg
  | .ask i j k, h => by
    obtain ⟨b, h1, h2⟩ := h
    exact hc i j b h1 _ (KasR.wp hc hg (k b) h2)
section
variable {X : Cx}
theorem vals_getD {ys : List V} {us : List Value} (h : Vals ys us) (i : Nat) : RelV (ys.getD i V.non) (us.getD i Value.none) := by
  rw [List.getD_eq_getElem?_getD, List.getD_eq_getElem?_getD]
  cases e : ys[i]? with
  | none => rw [h.none_of e]; rfl
  | some y =>
    obtain ⟨u, hu, r⟩ := h.get e
    rw [hu]
    exact r
theorem vals_map {ys : List V} {us : List Value} (h : Vals ys us) : ∀ l : List Nat, Vals (l.map fun i => ys.getD i V.non) (l.map fun i => us.getD i Value.none)
  | [] => .nil
  | i :: l => .cons (vals_getD h i) (vals_map h l)
def kasO {α : Type} (cmp : Nat → Nat → Option Bool) : KasT α → Option α
  | .ret a => some a
  | .ask i j k => match cmp i j with
    | some b => kasO cmp (k b)
    | none => none
def isTI : D → Bool
  | .tup (.int _ :: _) => true
  | _ => false
theorem kasO_R {α : Type} {cmp : Nat → Nat → Option Bool} {R : Nat → Nat → Bool → Prop} (hc : ∀ i j b, cmp i j = some b → R i j b) {r : α} : ∀ t : KasT α, kasO cmp t = some r → KasR R t r
  | .ret a, h => (Option.some.inj h).symm
  | .ask i j k, h => by
    unfold kasO at h
    split at h
    · rename_i b e
      exact ⟨b, hc i j b e, kasO_R hc (k b) h⟩
    · cases h
theorem Rps.getD {K : Frag} {F : Hp} {as : List Addr} {ds : List D} {xs : List V} (h : Rps K F as xs ds) (i : Nat) : Rp K F as (xs.getD i V.non) (ds.getD i .non) := by
  rw [List.getD_eq_getElem?_getD, List.getD_eq_getElem?_getD]
  cases e : ds[i]? with
  | none =>
    have : xs[i]? = none := by
      rw [List.getElem?_eq_none_iff] at e ⊢
      rw [h.length]
      exact e
    rw [this]
    exact Rp.non
  | some d =>
    obtain ⟨v, hv, r⟩ := h.get' e
    rw [hv]
    exact r
theorem Rps.mapD {K : Frag} {F : Hp} {as : List Addr} {ds : List D} {xs : List V} (h : Rps K F as xs ds) : ∀ l : List Nat, Rps K F as (l.map fun i => xs.getD i V.non) (l.map fun i => ds.getD i .non)
  | [] => Rps.nil
  | i :: l => Rps.cons (h.getD i) (Rps.mapD h l)
end
theorem bb_sorted : bootBuiltins "sorted" = some (.builtin "sorted") := by decide +kernel
structure Blt2 (mg : Str → Option Value) : Prop extends Blt mg where
  sorted_ : mg "sorted" = none
end L2
namespace L2
open PySem PySem.Spec PyProof.Rows
abbrev IsZipB (h : Heap) (z TI TO T : Addr) (b : Bool) : Prop :=
  h.get? z = some { cls := .type "zip", dict := none, data := .fields #[rawInt T, .bool b, .bool false, .ref TI, .ref TO], slots := #[] }
section
variable {prog : Program} {w : World} {A : Around} {E : Value → Shared → Prop} {s : Shared}
structure ZS (base : Nat) (h : Heap) (z TI TO i1 i2 l1 l2 S : Addr) (xs ys acc : Array Value) (c i : Nat) : Prop where
  zi : (IsZip h z TI TO .none ∧ ∃ a b, IsPair h TO a b) ∨ ∃ T b o, IsZipB h z TI TO T b ∧ h.get? T = some o ∧ T ∉ [z, TO, i1, i2, S]
  ti : IsPair h TI (.ref i1) (.ref i2)
  it1 : h.IsListIter i1 l1 i
  it2 : h.IsListIter i2 l2 i
  a1 : h.IsList l1 xs
  a2 : h.IsList l2 ys
  ls : h.get? S = some { cls := .type "list", dict := none, data := .seq acc c, slots := #[] }
  sz : acc.size = i
  tl : TO < h.objs.size
  nd : acc.toList.Nodup
  ts : ∀ (j : Nat) (v : Value), acc[j]? = some v → ∃ (T : Addr) (x y : Value), v = Value.ref T ∧ xs[j]? = some x ∧ ys[j]? = some y ∧ IsPair h T x y ∧ T ∉ [z, TO, i1, i2, S] ∧ base ≤ T
variable {R : PySem.Result → Shared → Prop}
end
section
variable {X : Cx}
end
section
variable {X : Cx} {md : List Md} {P : Pt}
end
section
end
end L2
namespace L2
open PySem PySem.Spec PyProof.Rows PySem.W
section
variable {X : Cx} {md : List Md} {P : Pt}
theorem call_isC : CallR X (.builtin "isinstance") (fun xs H Q => ∃ a A C dx fs, xs = [.ref a, .ref A] ∧ H a = some (.ins C dx fs) ∧ isIn X.K (.ref C) A = true ∧ Q (.bl true) H) := by
  intro pins s σ H xs us Q I r h
  obtain ⟨a, A, C, dx, fs, rfl, ha, hi, q⟩ := h
  obtain ⟨u1, u2, rfl, ru1, ru2⟩ := vals2 r
  cases ru1
  cases ru2
  obtain ⟨_, _, _, ho, _⟩ := I.hok a _ ha
  exact isi_call I.kIn (fun M => (Looks.ld ho).andThen .now) hi (fun z => nomatch z) ⟨.bl true, H, I, rfl, q⟩
def IsC (K : Frag) (mg : Str → Option Value) (c T : Str) : Prop := ∃ C A, mg c = some (.ref C) ∧ mg T = some (.ref A) ∧ isIn K (.ref C) A = true
def mIsC (c : Str) (m : M D) : M D := fun ρ O => (m ρ O).bind fun d O1 => match d with
  | .ob n => match O1[n]? with
    | some (.ins c' _) => if c' = c then .ok (.bl true) O1 else .no
    | _ => .no
  | _ => .no
theorem oe_isC {c T : Str} {a : Expr} {p p' pos : Pos} {m : M D} (hk : IsC X.K X.mg c T) (hm : X.mg "isinstance" = none) (h : VE X md P a m) (hg : Gl X "isinstance" := by rfl) (hgT : Gl X T := by rfl)
    (hTd : (T == ("__debug__" : Str)) = false := by decide)
    (hs1 : starEach [a, .Name T p'] X.env = (false, eval a X.env) :: starEach [.Name T p'] X.env := by exact starC rfl) (hs2 : starEach [.Name T p'] X.env = (false, eval (.Name T p') X.env) :: starEach [] X.env := by rfl) (hpl : (backTo pos (starEach [.Name T p'] X.env)).any (·.1) = false := by exact starAny rfl) :
    OE X md P (.Call (.Name "isinstance" p) [a, .Name T p'] [] pos) (mIsC c m) := by
  obtain ⟨C, A, hC, hA, hi⟩ := hk
  refine (pe_callB call_isC hg hm (by decide +kernel) (pa_cons h (pa_cons (pe_glob (v := .ref A) hgT hA rfl hTd) pa_nil hs2) hs1) (by decide) (by decide) hs1 hpl).imp fun σ H Q q => ?_
  obtain ⟨ρ, O, F, as, d, O', r, s, e, k⟩ := q
  obtain ⟨x, O1, e1, e⟩ := Res.bind_ok e
  cases x with
  | ob n =>
    dsimp only at e
    split at e
    · rename_i c' fs eo
      split at e
      · rename_i hcs
        cases e
        subst hcs
        refine ⟨ρ, _, F, as, _, _, r, s, e1, fun v H1 F1 as1 g1 r1 hv => ?_⟩
        obtain ⟨a', rfl, ha⟩ := Rp.unO hv
        obtain ⟨C', dx, gs, h1, h2, h3⟩ := r1.ob n a' _ ha eo
        rw [hC] at h1; cases h1
        exact ⟨a', A, C, dx, gs, rfl, h2, hi, k _ H1 F1 as1 g1 r1 (.inl ⟨rfl, Rp.bl⟩)⟩
      · cases e
    · cases e
  | _ => cases e
end
end L2
namespace L2
open PySem PySem.Spec PyProof.Rows
section
variable {X : Cx} {md : List Md} {P : Pt} {R : RR}
variable {elts : List Expr} {x1 : Nat} {tpos : Pos} {a elt : Expr} {ifs : List Expr} {scope : Scope} {p pos pe : Pos} {m : M D} {g : MG} {t : M Bool} {e : M D}
end
end L2
namespace L2
open PySem PySem.Spec PyProof.Rows
section
variable {X : Cx} {md : List Md} {P : Pt} {R : RR} {tg : Expr}
end
structure Blt3 (mg : Str → Option Value) : Prop extends Blt2 mg where
  reversed_ : mg "reversed" = none
end L2
namespace L2
open PySem PySem.Spec PyProof.Rows PySem.W
section
variable {prog : Program} {w : World} {A : Around} {E : Value → Shared → Prop}
end
section
variable {X : Cx} {md : List Md} {P : Pt} {R : RR}
end
end L2
namespace L2
open PySem PySem.Spec PyProof.Rows PySem.W
section
variable {X : Cx} {tg : Expr} {md : List Md} {P : Pt}
end
end L2
namespace L2
open PySem PySem.Spec PyProof.Rows PySem.W
section
variable {X : Cx} {pins : List (Addr × Obj)} {σ : List (Option V)} {H : Hp} {s : Shared} {a : Addr} {xs : List (List Key × V)} {o : Obj}
end
end L2
namespace L2
open PySem PySem.Spec PyProof.Rows PySem.W PySem.Calls
def stepS (ss : List Str) (x : Str) : List Str := if x ∈ ss then ss else ss ++ [x]
def keysS (es : Array (Int × Value)) : List Str := es.toList.map fun e => strOf e.2
def SetD (prog : Program) (w : World) (h : Heap) (a : Addr) (ss : List Str) (o : Obj) (es : Array (Int × Value)) (ep : Nat) (t : SetTable) : Prop :=
  h.get? a = some o ∧ o.ExactSet ∧ o.data = .set es ep t ∧ ElemsOf (PySem.strKind prog w) es.toList ∧ (keysS es).Perm ss ∧ es.size < scanBound ∧ t.fits es.size = true ∧ (es.size = 0 ∨ t.plain = false) ∧ t.led = !w.params.followText "set-order"
def SetS (prog : Program) (w : World) (h : Heap) (a : Addr) (ss : List Str) : Prop := ∃ o es ep t, SetD prog w h a ss o es ep t
section
variable {prog : Program} {w : World} {A : Around} {E : Value → Shared → Prop} {s : Shared} {a : Addr} {ss : List Str}
theorem SetS.at {h h' : Heap} (x : SetS prog w h a ss) (k : ∀ o, h.get? a = some o → h'.get? a = some o) : SetS prog w h' a ss :=
  let ⟨o, es, ep, t, h1, r⟩ := x; ⟨o, es, ep, t, k o h1, r⟩
theorem SetS.len {h : Heap} (x : SetS prog w h a ss) : ss.length < scanBound := by
  obtain ⟨o, es, ep, t, h1, h2, h3, h4, h5, h6, _⟩ := x
  rw [← h5.length_eq]
  unfold keysS
  rw [List.length_map]
  exact h6
theorem relay_plain (t : SetTable) (es : Array (Int × Value)) (n : Nat) (h : t.plain = false) : (relayAll t es n).2.1.plain = false := by
  unfold relayAll
  split
  · rename_i t' order e
    dsimp only
    split
    · unfold SetTable.relaid SetTable.laid at e
      cases q : SetTable.layClean (SetTable.sizeAbove n - 1) (Array.map (fun x => x.fst) es) with
      | none => rw [q] at e; cases e
      | some ow =>
        rw [q] at e
        cases e
        exact h
    · rfl
  · rfl
theorem relay_led (t : SetTable) (es : Array (Int × Value)) (n : Nat) : (relayAll t es n).2.1.led = t.led := by
  unfold relayAll
  split
  · rename_i t' order e
    dsimp only
    split
    · unfold SetTable.relaid SetTable.laid at e
      cases q : SetTable.layClean (SetTable.sizeAbove n - 1) (Array.map (fun x => x.fst) es) with
      | none => rw [q] at e; cases e
      | some ow =>
        rw [q] at e
        cases e
        rfl
    · rfl
  · rfl
theorem stand_led (t : SetTable) (n : Nat) : (t.orStandIn n).led = t.led := by
  unfold SetTable.orStandIn
  split <;> rfl
theorem lay_led (t : SetTable) (es : Array (Int × Value)) (h : Int) (x : Value) : (layNew t es h x).2.1.led = t.led := by
  unfold layNew
  split
  · exact stand_led _ _
  · rfl
theorem setS_store {h : Heap} {o : Obj} {es : Array (Int × Value)} {ep : Nat} {t : SetTable} (ho : h.get? a = some o) (hex : o.ExactSet) (hd : o.data = .set es ep t)
    {es' : Array (Int × Value)} {t' : SetTable} (hel : ElemsOf (PySem.strKind prog w) es'.toList) (hp : (keysS es').Perm ss) (hb : es'.size < scanBound) (hf : t'.fits es'.size = true) (hpl : t'.plain = false) (hled : t'.led = !w.params.followText "set-order") :
    (h.update a (Obj.putSet es' t')).get? a = some { o with data := .set es' (ep + 1) t' } ∧ SetS prog w (h.update a (Obj.putSet es' t')) a ss := by
  have hg : (h.update a (Obj.putSet es' t')).get? a = some { o with data := .set es' (ep + 1) t' } := by
    have := Heap.get?_update_self (Obj.putSet es' t') ho (by rw [putSet_of es' t' hd]; rfl)
    rw [putSet_of es' t' hd] at this; exact this
  exact ⟨hg, _, es', ep + 1, t', hg, hex, rfl, hel, hp, hb, hf, .inr hpl, hled⟩
theorem setS_tail {g : Bool → Sem Unit} (hg : ∀ (b : Bool) (s₁ : Shared) (Q' : Unit → Shared → Prop), Q' () s₁ → wpAny (model prog w) A (g b) Q' E s₁)
    {o : Obj} {es : Array (Int × Value)} {ep : Nat} {t : SetTable} (ho : s.heap.get? a = some o) (hex : o.ExactSet) (hd : o.data = .set es ep t)
    {es1 : Array (Int × Value)} {t2 : SetTable} (hel1 : ElemsOf (PySem.strKind prog w) es1.toList) (hp1 : (keysS es1).Perm ss) (hb1 : es1.size < scanBound) (hf2 : t2.fits es1.size = true) (hpl : t2.plain = false) (hled : t2.led = !w.params.followText "set-order") {wasDummy : Bool} {R : Option Bool → Shared → Prop}
    (h : ∀ h', Heap.SameBut a s.heap h' → SetS prog w h' a ss → R (some true) { s with heap := h' }) :
    wpAny (model prog w) A (do
        storeSet a es1 t2
        if (!wasDummy && t2.tooFull) = true then do
            g (relayAll t2 es1 (SetTable.grown es1.size)).2.2
            storeSet a (relayAll t2 es1 (SetTable.grown es1.size)).1 (relayAll t2 es1 (SetTable.grown es1.size)).2.1
            pure (some true)
          else pure (some true)) R E s := by
  refine wpAny_bind (wpAny_storeSet_of ho hd ?_ (fits_of_scanBound hb1))
  obtain ⟨ho1, hS1⟩ := setS_store (prog := prog) (w := w) ho hex hd hel1 hp1 hb1 hf2 hpl hled
  have hsb1 := Heap.SameBut.update s.heap a (Obj.putSet es1 t2)
  split
  · have hp := relayAll_perm t2 es1 (SetTable.grown es1.size)
    have hfr := relayAll_fits t2 es1 (SetTable.grown es1.size)
    have hpr := relay_plain t2 es1 (SetTable.grown es1.size) hpl
    have hlr := relay_led t2 es1 (SetTable.grown es1.size)
    generalize hRl : relayAll t2 es1 (SetTable.grown es1.size) = Rl at hp hfr hpr hlr ⊢
    obtain ⟨es2, t3, gave2⟩ := Rl
    dsimp only at hp hfr hpr hlr ⊢
    have hel2 : ElemsOf (PySem.strKind prog w) es2.toList := hel1.perm hp
    have hsz : es2.size = es1.size := by rw [← Array.length_toList, hp.length_eq, Array.length_toList]
    have hb2 : es2.size < scanBound := by rw [hsz]; exact hb1
    refine wpAny_bind (hg _ _ _ ?_)
    refine wpAny_bind (wpAny_storeSet_of ho1 rfl ?_ (fits_of_scanBound hb2))
    obtain ⟨_, hS2⟩ := setS_store (prog := prog) (w := w) ho1 hex rfl hel2 ((hp.map _).trans hp1) hb2 hfr hpr (hlr.trans hled)
    exact wpAny_pure (h _ (hsb1.trans (Heap.SameBut.update _ a _)) hS2)
  · exact wpAny_pure (h _ hsb1 hS1)
theorem setS_add {x : Str} {tk : Tok} {Q : Bool → Shared → Prop} (hS : SetS prog w s.heap a ss) (hroom : ss.length + 1 < scanBound)
    (h : ∀ h' b, Heap.SameBut a s.heap h' → SetS prog w h' a (stepS ss x) → Q b { s with heap := h' }) :
    wpAny (model prog w) A (setAddHashed a (.str x tk) ((PySem.strKind prog w).hash x)) Q E s := by
  obtain ⟨o, es, ep, t, ho, hex, hd, hel, hp, hb, hf, hpl, hled⟩ := hS
  have hkey : (PySem.strKind prog w).is x (.str x tk) = true := by
    show Value.isStrOf x (.str x tk) = true
    simp [Value.isStrOf]
  have hlen : es.size = ss.length := by rw [← hp.length_eq]; unfold keysS; rw [List.length_map, Array.length_toList]
  have hb1 : es.size + 1 < scanBound := by rw [hlen]; exact hroom
  have hsc : (Value.str x tk).scannable = true := rfl
  have key : ∀ e ∈ es.toList, ∀ y, (PySem.strKind prog w).is y e.2 = true ↔ strOf e.2 = y := fun e he y => by
    obtain ⟨⟨k, hk, _⟩, _⟩ := hel e he
    obtain ⟨t', ht⟩ := Value.isStrOf_shape hk
    rw [ht]
    show Value.isStrOf y (.str k t') = true ↔ k = y
    simp [Value.isStrOf]
  unfold setAddHashed setAddHashedIn
  refine wpAny_holding (wpAny_bind (wpAny_setState_of ho hd hf ?_))
  dsimp only
  rw [byScan_of hsc hb hel]
  simp only [↓reduceIte]
  unfold setAddByScan
  refine wpAny_bind ?_
  refine wpAny_bind (wpAny_rule ?_)
  refine wpAny_bind (wpAny_setScan_of hkey ho hd hf hel ?_)
  cases hr : List.findIdx? (fun e => (PySem.strKind prog w).is x e.2) es.toList with
  | some j =>
    dsimp only
    obtain ⟨hj, hpj, _⟩ := List.findIdx?_eq_some_iff_getElem.mp hr
    have hx : x ∈ ss := hp.mem_iff.mp (List.mem_map.mpr ⟨es.toList[j], List.getElem_mem hj, (key _ (List.getElem_mem hj) x).mp hpj⟩)
    refine wpAny_pure (wpAny_pure ?_)
    have e : s = { s with heap := s.heap } := by cases s; rfl
    rw [e]
    exact h s.heap _ (Heap.SameBut.refl a s.heap) ⟨o, es, ep, t, ho, hex, hd, hel, by rw [stepS, if_pos hx]; exact hp, hb, hf, hpl, hled⟩
  | none =>
    dsimp only
    have hx : x ∉ ss := fun hx => by
      obtain ⟨e, he, q⟩ := List.mem_map.mp (hp.mem_iff.mpr hx)
      have := List.findIdx?_eq_none_iff.mp hr e he
      rw [(key e he x).mpr q] at this
      exact Bool.noConfusion this
    have hgw : ∀ (b : Bool) {s₁ : Shared} {Q' : Unit → Shared → Prop}, Q' () s₁ → wpAny (model prog w) A (match b with | true => rule "set.scan.the-table-gave-way" | false => pure ()) Q' E s₁ :=
      fun b s₁ Q' hq => by cases b <;> first | exact wpAny_pure hq | exact wpAny_rule hq
    have hperm := layNew_perm t es ((PySem.strKind prog w).hash x) (.str x tk)
    have hfits := layNew_fits t es ((PySem.strKind prog w).hash x) (.str x tk)
    have hll := lay_led t es ((PySem.strKind prog w).hash x) (.str x tk)
    generalize hL : layNew t es ((PySem.strKind prog w).hash x) (.str x tk) = L at hperm hfits hll ⊢
    obtain ⟨es1, t1, wasDummy, gave⟩ := L
    dsimp only at hperm hfits hll ⊢
    rw [Array.toList_push] at hperm
    have hel1 : ElemsOf (PySem.strKind prog w) es1.toList := (hel.push hkey hsc).perm hperm
    have hp1 : (keysS es1).Perm (stepS ss x) := by
      rw [stepS, if_neg hx]
      refine (hperm.map fun e => strOf e.2).trans ?_
      rw [List.map_append]
      exact hp.append_right _
    have hb1' : es1.size < scanBound := by rw [← Array.length_toList, hperm.length_eq, List.length_append, Array.length_toList]; simpa using hb1
    refine wpAny_bind (hgw _ ?_)
    split
    · refine wpAny_bind ?_
      refine wpAny_bind (m := hashByValue 8 (.str x tk)) (wpAny_pure ?_)
      refine wpAny_pure ?_
      simp only [Bool.false_eq_true, ↓reduceIte]
      refine setS_tail (t2 := { t1 with plain := false }) ?_ ho hex hd hel1 hp1 hb1' (SetTable.fits_plain_off hfits) rfl (hll.trans hled) ?_
      · intro b s₁ Q' hq; cases b <;> first | exact wpAny_pure hq | exact wpAny_rule hq
      · intro h' hsb hS'; dsimp only; exact wpAny_pure (h h' _ hsb hS')
    · rename_i hnp
      refine wpAny_bind (wpAny_pure ?_)
      simp only [↓reduceIte]
      refine setS_tail ?_ ho hex hd hel1 hp1 hb1' hfits (by simpa using hnp) (hll.trans hled) ?_
      · intro b s₁ Q' hq; cases b <;> first | exact wpAny_pure hq | exact wpAny_rule hq
      · intro h' hsb hS'; dsimp only; exact wpAny_pure (h h' _ hsb hS')
theorem isS (x : Str) (t : Tok) : (PySem.strKind prog w).is x (.str x t) = true := by
  show Value.isStrOf x (.str x t) = true
  simp [Value.isStrOf]
theorem map_getD (ns : List Str) : (List.range' 0 ns.length).map (fun i => ns.getD i ⟨#[]⟩) = ns := by
  apply List.ext_getElem
  · simp
  · intro i h1 h2
    simp [List.getD_eq_getElem?_getD, h2]
theorem loop_setS {R : Result → Shared → Prop} {I : Addr} {fp wr : List Addr} {G : Array GenState → Array GenState → Prop} {n : Nat} {P : Nat → Value → Prop} {St : Nat → Shared → Prop} (W : WalksS prog w A.in1 I fp wr G n P St) (S : Addr) (hSf : S ∉ fp)
    (val : Nat → Str) (hval : ∀ i v, P i v → ∃ t, v = .str (val i) t) (hb : n + 1 < scanBound) :
    ∀ (k i : Nat) (s : Shared) (ss : List Str), n - i = k → i ≤ n → St i s → ss.length ≤ i → SetS prog w s.heap S ss →
      (∀ s', Moved (S :: wr) G s s' → SetS prog w s'.heap S (((List.range' i (n - i)).map val).foldl stepS ss) → R (.ok (.ret .none)) s') →
      codeAny (model prog w) A (.builtin "set.update.loop" ⟨[.ref S, .ref I], []⟩) R s := by
  have hSw : S ∉ wr := fun h => hSf (W.sub _ h)
  have hsub : ∀ b ∈ wr, b ∈ S :: wr := fun b hb => List.mem_cons_of_mem _ hb
  intro k
  induction k with
  | zero =>
    intro i s ss hk hi hst hle hS hR
    have hin : i = n := by omega
    subst hin
    refine codeAny_builtin PyProof.Rows.F.entry_set_update_loop ?_
    rw [Around.under_plainId PyProof.Rows.F.plain_set_update_loop _]
    show wpAny _ A.in1 (pyNext (.ref I) >>= _) _ _ s
    refine wpAny_bind (W.done s _ _ hst fun s' hm => ?_)
    show wpAny _ A.in1 (ret Value.none) _ _ s'
    refine wpAny_pure (hR s' (hm.mono hsub) ?_)
    rw [Nat.sub_self]
    exact hS.at fun o e => hm.heap S _ hSw e
  | succ k ih =>
    intro i s ss hk hi hst hle hS hR
    have hlt : i < n := by omega
    refine codeAny_builtin PyProof.Rows.F.entry_set_update_loop ?_
    rw [Around.under_plainId PyProof.Rows.F.plain_set_update_loop _]
    show wpAny _ A.in1 (pyNext (.ref I) >>= _) _ _ s
    refine wpAny_bind (W.item i s _ _ hlt hst fun v s' hP hst' hm => ?_)
    obtain ⟨t, rfl⟩ := hval i v hP
    have hS' : SetS prog w s'.heap S ss := hS.at fun o e => hm.heap S _ hSw e
    show wpAny _ A.in1 (holding [Value.str (val i) t] (setAdd S (.str (val i) t)) >>= _) _ _ s'
    refine wpAny_bind (wpAny_holding ?_)
    unfold setAdd
    refine wpAny_holding ?_
    refine wpAny_bind ((PySem.strKind prog w).pyHash (k := val i) (isS _ _) ?_)
    refine setS_add (s := { s' with toks := s'.toks + 1 }) hS' (by omega) fun h' b hsb hS2 => ?_
    refine wpAny_pure ⟨plainId_quiet PyProof.Rows.F.plain_set_update_loop _, ih (i + 1) _ (stepS ss (val i)) (by omega) hlt (W.frame _ s' _ _ hst' (Nat.le_succ _) fun b hb o e => ?_) ?_ hS2 fun s'' hm'' hS'' => ?_⟩
    · rw [hsb.2 b (fun h : b = S => hSf (by rw [← h]; exact hb))]; exact e
    · unfold stepS
      split
      · omega
      · rw [List.length_append, List.length_singleton]; omega
    · refine hR s'' (Moved.trans W.gtrans ((hm.mono hsub).then_heap (Nat.le_succ _) fun b o hb e => ?_) hm'') ?_
      · rw [hsb.2 b (fun h : b = S => hb (by rw [h]; exact List.mem_cons_self))]; exact e
      · rw [show n - i = (n - (i + 1)) + 1 by omega, List.range'_succ, List.map_cons, List.foldl_cons]
        exact hS''
theorem new_setS (x : Value) {Q₁ : Value → Shared → Prop}
    (h : Q₁ (.ref s.heap.objs.size) { s with heap := s.heap.push { cls := .type "set", dict := none, data := .set #[] 0 (.fresh 0 0 (!w.params.followText "set-order")) } }) :
    codeAny (model prog w) A (.call (.builtin "set.__new__") ⟨[.type "set", x], []⟩) (wants Q₁ E) s := by
  refine codeAny_of_tree ?_
  show wpAny _ A.in1 (do checkBuiltinCall "set.__new__" ⟨[.type "set", x], []⟩; again (.builtin "set.__new__" ⟨[.type "set", x], []⟩)) _ _ s
  refine wpAny_bind (wpAny_of_eq (PySem.F.newCall_set_1 x) (wpAny_pure ⟨plainId_quiet PySem.F.plain_set_new _, codeAny_builtin PySem.F.entry_set_new ?_⟩))
  rw [Around.under_plainId PySem.F.plain_set_new _]
  unfold Builtin.«set.__new__» Builtin.Frozenset.newClass
  have hsub := sub_set_self
  obtain ⟨hp, g, d, tk, os⟩ := s
  dsimp only
  wp_walk
  refine wpAny_askSetting (wpAny_pure ?_)
  dsimp only
  simp only [newObj]
  refine wpAny_bind (wpAny_alloc (wpAny_pure ?_))
  exact wpAny_pure h
theorem freshS {h : Heap} : SetS prog w (h.push { cls := .type "set", dict := none, data := .set #[] 0 (.fresh 0 0 (!w.params.followText "set-order")) }) h.objs.size [] :=
  ⟨_, #[], 0, _, Heap.get?_push_size _ rfl, ⟨rfl, rfl, rfl⟩, rfl, fun e he => by simp at he, .nil, by decide, by rfl, .inl rfl, rfl⟩
set_option maxHeartbeats 8000000 in
theorem call_setS_list {l : Addr} {items : Array Value} {ns : List Str} {Q : Value → Shared → Prop}
    (hh : A.handled = none) (hl : s.heap.IsList l items) (hi : StrsAre items.toList ns) (hb : items.size + 1 < scanBound)
    (h : ∀ (h' : Heap) (tk : Nat), SetS prog w h' s.heap.objs.size (ns.foldl stepS []) →
      (∀ b o, s.heap.get? b = some o → h'.get? b = some o) → Q (.ref s.heap.objs.size) { s with heap := h', toks := tk }) :
    wpAny (model prog w) A (call (.type "set") [.ref l]) Q E s := by
  obtain ⟨c, tl, hmro⟩ := PySem.F.called_set.mro
  have hmade := PySem.F.called_set.made
  have hsub := PySem.F.called_set.sub
  refine wpAny_call (codeAny_of_tree ?_)
  show wpAny _ _ (callAny (.type "set") _) _ _ _
  refine wpAny_pure ⟨Code.quiet_builtin _ (by decide +kernel), codeAny_builtin PySem.F.entry_type_call ?_⟩
  rw [Around.under_plain (weight_type_call_type "set" [.ref l] []) rfl]
  have h1 := PySem.F.called_set.notType
  have h2 := PySem.F.called_set.canCreate
  have hct := PySem.F.typeCall_set_1 (.ref l)
  repeat (any_goals (first | assumption | wp_step))
  generalize hO : ({ cls := .type "set", dict := none, data := .set #[] 0 (.fresh 0 0 (!w.params.followText "set-order")) } : Obj) = O0
  refine codeAny_mono (new_setS (.ref l) (E := E) (Q₁ := fun obj s₁ => obj = .ref s.heap.objs.size ∧ s₁ = { s with heap := s.heap.push O0 }) (by rw [hO]; exact ⟨rfl, rfl⟩)) fun r s₁ hr => ?_
  cases r with
  | error e => exact hr
  | ok fl =>
    cases fl with
    | ret obj =>
      obtain ⟨rfl, rfl⟩ := hr
      have hfr : SetS prog w (s.heap.push O0) s.heap.objs.size [] := by rw [← hO]; exact freshS
      have hS : (s.heap.push O0).get? s.heap.objs.size = some O0 := by rw [← hO]; exact Heap.get?_push_size _ rfl
      have hcls : O0.cls = .type "set" := by rw [← hO]
      have hdat : O0.data = .set #[] 0 (.fresh 0 0 (!w.params.followText "set-order")) := by rw [← hO]
      have hT : Shared.TypeIs { s with heap := s.heap.push O0 } (.ref s.heap.objs.size) "set" := ⟨_, hS, hcls⟩
      have hli := PySem.F.called_set.init.lookup
      have hbi := PySem.F.called_set.init.bind (.ref s.heap.objs.size)
      repeat (any_goals (first | assumption | wp_step))
      refine codeAny_mono (codeAny_call_builtin (R := wants (fun r s₂ => r = .none ∧ ∃ h' tk, s₂ = { s with heap := h', toks := tk } ∧
          SetS prog w h' s.heap.objs.size (ns.foldl stepS []) ∧
          (∀ b o, s.heap.get? b = some o → h'.get? b = some o)) E) PySem.F.called_set.init.plain PySem.F.entry_set_init (check_set_init_1 hT ?_)) fun r₂ s₂ hr₂ => ?_
      · subst hO
        obtain ⟨ol, hol, hcl, nl, hdl⟩ := hl
        obtain ⟨ocls, odict, odata, oslots⟩ := ol
        simp only at hcl hdl
        subst hcl; subst hdl
        have hol' : (s.heap.push { cls := .type "set", dict := none, data := .set #[] 0 (.fresh 0 0 (!w.params.followText "set-order")) }).get? l = some { cls := .type "list", dict := odict, data := .seq items nl, slots := oslots } := Heap.get?_push_of_some _ hol
        have hsls := PySem.F.sub_list_set
        have hslf := PySem.F.sub_list_frozenset
        have hne : (Value.type "list" == Value.type "dict") = false := by decide
        have hl1 : (s.heap.push { cls := .type "set", dict := none, data := .set #[] 0 (.fresh 0 0 (!w.params.followText "set-order")) }).IsList l items := ⟨_, hol', rfl, nl, rfl⟩
        unfold Builtin.«set.__init__» noKeywords Builtin.Frozenset.updateFrom
        generalize hPI : pyIter = PI
        wp_walk
        subst hPI
        refine wpAny_pyIter_list hl1 ?_
        refine wpAny_bind (wpAny_runValue ?_)
        have hlS : l < s.heap.objs.size := Heap.lt_size hol
        have hh3 : A.in1.in1.in1.handled = none := by simp [hh]
        have hneI : l ≠ (s.heap.push { cls := .type "set", dict := none, data := .set #[] 0 (.fresh 0 0 (!w.params.followText "set-order")) }).objs.size := by
          rw [Heap.size_push]; exact Nat.ne_of_lt (Nat.lt_succ_of_lt hlS)
        have hSf : s.heap.objs.size ∉ [(s.heap.push { cls := .type "set", dict := none, data := .set #[] 0 (.fresh 0 0 (!w.params.followText "set-order")) }).objs.size, l] := by
          rw [Heap.size_push]; simp only [List.mem_cons, List.mem_singleton, List.not_mem_nil, or_false, not_or]
          exact ⟨Nat.ne_of_lt (Nat.lt_succ_self _), Nat.ne_of_gt hlS⟩
        have hnl : ns.length = items.size := by rw [← hi.strs, List.length_map, Array.length_toList]
        have hval : ∀ (i : Nat) (v : Value), items[i]? = some v → ∃ t, v = .str ((fun i => ns.getD i ⟨#[]⟩) i) t := fun i v hv => by
          have hv' : items.toList[i]? = some v := by rw [Array.getElem?_toList]; exact hv
          obtain ⟨x, t, rfl⟩ := hi.all v (List.mem_of_getElem? hv')
          refine ⟨t, ?_⟩
          have hm : (items.toList.map strOf)[i]? = some x := by rw [List.getElem?_map, hv']; rfl
          rw [hi.strs] at hm
          show Value.str x t = Value.str (ns.getD i ⟨#[]⟩) t
          rw [List.getD_eq_getElem?_getD, hm]
          rfl
        refine loop_setS ((Walks.list hh3 _ l hneI items).toS) s.heap.objs.size
          hSf (fun i => ns.getD i ⟨#[]⟩) hval hb (items.size - 0) 0 _ [] (by omega) (Nat.zero_le _)
          ⟨⟨_, Heap.get?_push_size _ rfl, rfl, rfl⟩, (hl1.push _)⟩ (Nat.le_refl _) (freshS.at fun o e => Heap.get?_push_of_some _ e) ?hR
        intro s' hm hS'
        rw [Nat.sub_zero, ← hnl] at hS'
        rw [map_getD] at hS'
        obtain ⟨h', g', d', tk', os'⟩ := s'
        have eg : g' = s.gens := hm.gens
        have ed : d' = s.drawn := hm.drawn
        have eo : os' = s.os := hm.os
        subst eg; subst ed; subst eo
        show wpAny _ _ _ _ _ _
        refine wpAny_pure ?_
        show wpAny _ _ (ret Value.none) _ _ _
        refine wpAny_pure ⟨rfl, h', tk', rfl, hS', fun b o e => ?_⟩
        have hb' := Heap.lt_size e
        have hb1 : b ≠ s.heap.objs.size := Nat.ne_of_lt hb'
        have hb2 : b ≠ (s.heap.push { cls := .type "set", dict := none, data := .set #[] 0 (.fresh 0 0 (!w.params.followText "set-order")) }).objs.size := by
          rw [Heap.size_push]; exact Nat.ne_of_lt (Nat.lt_succ_of_lt hb')
        exact hm.heap b o (by simp only [List.mem_cons, List.mem_singleton, List.not_mem_nil, or_false, not_or]; exact ⟨hb1, hb2⟩) (Heap.get?_push_of_some _ (Heap.get?_push_of_some _ e))
      · cases r₂ with
        | error e => exact hr₂
        | ok fl₂ =>
          cases fl₂ with
          | ret r =>
            obtain ⟨rfl, h', tk, rfl, hS', hk'⟩ := hr₂
            repeat (any_goals (first | assumption | wp_step))
            exact h _ _ hS' hk'
          | _ => exact hr₂.elim
    | _ => exact hr.elim
end
end L2
namespace L2
open PySem PySem.Spec PyProof.Rows PySem.W PySem.Calls
theorem sI_slot : Slot "set_iterator" "__next__" "set_iterator.__next__" :=
  .of (owner := "set_iterator") (n := "__next__") (by rw [typeLookup_type, builtinLookup_eq_fast]; kernel_rfl) (by decide +kernel) (by decide +kernel) (by decide +kernel)
    (by first | exact .inl (by decide +kernel) | exact .inr (by decide +kernel)) (by rw [isSubtype_type]; kernel_rfl)
theorem sI_entry : entryFor table "set_iterator.__next__" = some Builtin.«set_iterator.__next__» := entryFor_of_tree (by kernel_rfl)
theorem sI_args (a : Value) : argsOk "set_iterator.__next__" ⟨[a], []⟩ := by unfold argsOk; kernel_rfl
theorem sI_iter : Slot "set_iterator" "__iter__" "set_iterator.__iter__" :=
  .of (owner := "set_iterator") (n := "__iter__") (by rw [typeLookup_type, builtinLookup_eq_fast]; kernel_rfl) (by decide +kernel) (by decide +kernel) (by decide +kernel)
    (by first | exact .inl (by decide +kernel) | exact .inr (by decide +kernel)) (by rw [isSubtype_type]; kernel_rfl)
theorem sI_itere : entryFor table "set_iterator.__iter__" = some Builtin.«dict_keyiterator.__iter__» :=
  entryFor_alias (id' := "dict_keyiterator.__iter__") (by kernel_rfl) rfl (by decide +kernel) (by kernel_rfl)
theorem sI_itera (a : Value) : argsOk "set_iterator.__iter__" ⟨[a], []⟩ := by unfold argsOk; kernel_rfl
theorem sS_entry : entryFor table "set.__iter__" = some Builtin.«frozenset.__iter__» :=
  entryFor_alias (id' := "frozenset.__iter__") (by kernel_rfl) rfl (by decide +kernel) (by kernel_rfl)
def ItS (h : Heap) (I a : Addr) (first : Value) (i n ep : Nat) : Prop := ∃ o, h.get? I = some o ∧ o.cls = .type "set_iterator" ∧ o.data = .fields #[first, .int i 0, .ref a, .int n 0, .int ep 0]
section
variable {prog : Program} {w : World} {A : Around} {E : Value → Shared → Prop} {s : Shared} {a : Addr} {ss : List Str} {o : Obj} {es : Array (Int × Value)} {ep : Nat} {t : SetTable}
theorem ItS.typeIs {I : Addr} {first : Value} {i n : Nat} (h : ItS s.heap I a first i n ep) : s.TypeIs (.ref I) "set_iterator" := let ⟨o, h1, h2, _⟩ := h; ⟨o, h1, h2⟩
theorem wpAny_choose' {M : Model} {src : Source} {n : Nat} {Q : Nat → Shared → Prop} (hn : n ≠ 0) (h : ∀ i d, i < n → Q i { s with drawn := d }) : wpAny M A (choose src n) Q E s :=
  fun Γ p hΓ => ⟨hn, h _ _ (Nat.mod_lt _ (Nat.pos_of_ne_zero hn))⟩
theorem era_perm {α : Type} : ∀ (l : List α) (i : Nat) (h : i < l.length), (l[i] :: l.eraseIdx i).Perm l
  | x :: xs, 0, _ => .refl _
  | x :: xs, i + 1, h => (List.Perm.swap _ _ _).trans ((era_perm xs i (Nat.lt_of_succ_lt_succ h)).cons x)
theorem wp_drawOrder {M : Model} {α : Type} : ∀ (n : Nat) (xs : List α) (s : Shared) (Q : List α → Shared → Prop), xs.length = n → (∀ ys d, ys.Perm xs → Q ys { s with drawn := d }) → wpAny M A (drawOrder n xs) Q E s
  | 0, xs, s, Q, hl, h => by
    rw [List.length_eq_zero_iff.mp hl] at h
    exact wpAny_pure (h [] s.drawn .nil)
  | n + 1, [], s, Q, hl, h => by cases hl
  | n + 1, x :: xs, s, Q, hl, h => by
    unfold drawOrder
    refine wpAny_bind (wpAny_choose' (by simp) fun i d hi => ?_)
    rw [List.getElem?_eq_getElem hi]
    refine wpAny_bind (wp_drawOrder n _ _ _ ?_ fun ys d' hp => ?_)
    · rw [List.length_eraseIdx_of_lt hi]; omega
    · exact wpAny_pure (h _ d' ((hp.cons _).trans (era_perm _ _ hi)))
theorem setS_iter {Q : Value → Shared → Prop} (x : SetD prog w s.heap a ss o es ep t)
    (h1 : (w.params.followText "set-order" = true ∨ es.size ≤ 1) → Q (.ref s.heap.objs.size) { s with heap := s.heap.push { cls := .type "set_iterator", data := .fields #[.int 0 0, .int 0 0, .ref a, .int es.size 0, .int ep 0] } })
    (h2 : w.params.followText "set-order" = false → ∀ (ps : List Nat) d, ps.Perm (List.range es.size) → Q (.ref (s.heap.objs.size + 1)) { s with drawn := d, heap := (s.heap.push { cls := .type "tuple", data := .seq (ps.map fun i => Value.int (i : Nat) 0).toArray }).push { cls := .type "set_iterator", data := .fields #[.ref s.heap.objs.size, .int 0 0, .ref a, .int es.size 0, .int ep 0] } }) :
    wpAny (model prog w) A (pyIter (.ref a)) Q E s := by
  obtain ⟨ho, hex, hd, hel, hp, hb, hf, hpl, hled⟩ := x
  have hT : s.TypeIs (.ref a) "set" := ⟨o, ho, hex.1⟩
  refine wpAny_pyIter_slot hT PySem.F.slot_set_iter (wpAny_call_entry PySem.F.slot_set_iter hT sS_entry ?_ (PySem.F.args_set_iter_1 _))
  unfold Builtin.«frozenset.__iter__» Builtin.Frozenset.slot0 slotArgs
  simp only [List.isEmpty_nil, Bool.not_true, Bool.false_eq_true, ↓reduceIte, bind_assoc, List.length_nil, bne_self_eq_false]
  unfold Builtin.Frozenset.addrOf Builtin.Frozenset.sizeOf
  refine wpAny_bind (wpAny_pure ?_)
  dsimp only
  refine wpAny_bind (wpAny_pure ?_)
  refine wpAny_bind (wpAny_bind (wpAny_setEntries_of ho hd hf (wpAny_pure ?_)))
  unfold setDrawn setsByText
  refine wpAny_bind (wpAny_bind (wpAny_setState_of ho hd hf ?_))
  refine wpAny_bind (wpAny_bind (wpAny_askSetting (wpAny_pure ?_)))
  refine wpAny_pure ?_
  refine wpAny_ite_split (fun hc => ?_) (fun hc => ?_)
  · change (!w.params.followText "set-order" && (!t.plain && decide (es.size > 1))) = true at hc
    have hft : w.params.followText "set-order" = false := by
      cases h : w.params.followText "set-order" with
      | false => rfl
      | true => rw [h] at hc; cases hc
    refine wpAny_bind (wp_drawOrder _ _ _ _ List.length_range fun ps d hps => ?_)
    have hpl : ps.length = es.size := by rw [hps.length_eq, List.length_range]
    refine wpAny_bind (wpAny_newTuple ?_ (by rw [List.length_map, hpl, sizeLine_eq]; unfold scanBound at hb; omega))
    have ho' : (s.heap.push { cls := .type "tuple", data := .seq (ps.map fun i => rawInt (i : Nat)).toArray }).get? a = some o := Heap.get?_push_of_some _ ho
    refine wpAny_bind (wpAny_setEpoch_of (s := { s with drawn := d, heap := s.heap.push { cls := .type "tuple", data := .seq (ps.map fun i => rawInt (i : Nat)).toArray } }) ho' hd hf ?_)
    unfold newFields
    refine wpAny_bind (wpAny_newObj_type (wpAny_pure ⟨_, rfl, "set_iterator", _, ⟨_, Heap.get?_push_size _ rfl, rfl⟩, sI_slot.lookup, ?_⟩))
    have := h2 hft ps d hps
    rw [Heap.size_push]
    exact this
  · change ¬ (!w.params.followText "set-order" && (!t.plain && decide (es.size > 1))) = true at hc
    have hft : w.params.followText "set-order" = true ∨ es.size ≤ 1 := by
      cases h : w.params.followText "set-order" with
      | true => exact .inl rfl
      | false =>
        refine .inr ?_
        rw [h] at hc
        rcases hpl with hz | hz
        · omega
        · rw [hz] at hc
          simpa using hc
    refine wpAny_bind (wpAny_pure ?_)
    refine wpAny_bind (wpAny_setEpoch_of ho hd hf ?_)
    unfold newFields
    exact wpAny_bind (wpAny_newObj_type (wpAny_pure ⟨_, rfl, "set_iterator", _, ⟨_, Heap.get?_push_size _ rfl, rfl⟩, sI_slot.lookup, h1 hft⟩))
theorem put_field {h : Heap} {I : Addr} {o : Obj} {vs : Array Value} {i : Nat} {x : Value} (ho : h.get? I = some o) (hd : o.data = .fields vs) : ∃ o', (h.update I (Obj.mapFields (·.setIfInBounds i x))).get? I = some o' ∧ o'.cls = o.cls ∧ o'.data = .fields (vs.setIfInBounds i x) :=
  ⟨_, Heap.get?_update_self _ ho (Obj.isFreed_of_fields (Obj.data_mapFields hd _)), Obj.cls_mapFields .., by rw [Obj.data_mapFields hd]⟩
theorem next_int {I : Addr} {sl : Int} {nx i n : Nat} {v : Value} {Q : Option Value → Shared → Prop} (hit : ItS s.heap I a (.int sl 0) i n ep) (x : SetD prog w s.heap a ss o es ep t) (hn : es.size = n)
    (hs : ∀ (A' : Around) (Q' : Option (Value × Nat) → Shared → Prop) (E' : Value → Shared → Prop), Q' (some (v, nx)) s → wpAny (model prog w) A' (setNext a sl.toNat i ep) Q' E' s)
    (hQ : ∀ h', ItS h' I a (.int nx 0) (i + 1) n ep → Heap.SameBut I s.heap h' → Q (some v) { s with heap := h' }) : wpAny (model prog w) A (pyNext (.ref I)) Q E s := by
  obtain ⟨oI, hI, hc, hdI⟩ := id hit
  obtain ⟨ho, hex, hd, hel, hp, hb, hf, hpl, hled⟩ := x
  unfold pyNext
  refine wpAny_bind (wpAny_attempt (wpAny_callSpecial?_slot (name := Str.ofString "__next__") hit.typeIs sI_slot
    (wpAny_call_entry sI_slot hit.typeIs sI_entry ?_ (sI_args _))))
  unfold Builtin.«set_iterator.__next__» slotArgs
  simp only [List.isEmpty_nil, Bool.not_true, Bool.false_eq_true, ↓reduceIte, bind_assoc, List.length_nil, bne_self_eq_false]
  refine wpAny_bind (wpAny_pure ?_)
  dsimp only
  refine wpAny_bind (wpAny_fieldsOf hI hdI ?_)
  dsimp only
  refine wpAny_bind (wpAny_setEntries_of ho hd hf ?_)
  rw [if_neg (by rw [hn]; simp)]
  refine wpAny_bind (hs _ _ _ ?_)
  dsimp only
  refine wpAny_bind (wpAny_setField hI hdI (by simp) ?_)
  obtain ⟨o1, e1, c1, d1⟩ := put_field (i := 0) (x := rawInt (nx : Nat)) hI hdI
  refine wpAny_bind (wpAny_setField (s := { s with heap := s.heap.update I (Obj.mapFields (·.setIfInBounds 0 (rawInt (nx : Nat)))) }) e1 d1 (by simp) ?_)
  obtain ⟨o2, e2, c2, d2⟩ := put_field (i := 1) (x := rawInt ((i : Int) + 1)) e1 d1
  refine wpAny_pure ⟨_, rfl, wpAny_pure (hQ _ ⟨o2, e2, c2.trans (c1.trans hc), by rw [d2]; simp [rawInt]⟩ ((Heap.SameBut.update ..).trans (Heap.SameBut.update ..)))⟩
theorem end_int {I : Addr} {sl : Int} {i n : Nat} {Q : Option Value → Shared → Prop} (hh : A.handled = none) (hit : ItS s.heap I a (.int sl 0) i n ep) (x : SetD prog w s.heap a ss o es ep t) (hn : es.size = n)
    (hs : ∀ (A' : Around) (Q' : Option (Value × Nat) → Shared → Prop) (E' : Value → Shared → Prop), Q' none s → wpAny (model prog w) A' (setNext a sl.toNat i ep) Q' E' s)
    (hQ : ∀ h', Heap.ExtBut I s.heap h' → Q none { s with heap := h' }) : wpAny (model prog w) A (pyNext (.ref I)) Q E s := by
  obtain ⟨oI, hI, hc, hdI⟩ := id hit
  obtain ⟨ho, hex, hd, hel, hp, hb, hf, hpl, hled⟩ := x
  unfold pyNext
  refine wpAny_bind (wpAny_attempt (wpAny_callSpecial?_slot (name := Str.ofString "__next__") hit.typeIs sI_slot
    (wpAny_call_entry sI_slot hit.typeIs sI_entry ?_ (sI_args _))))
  unfold Builtin.«set_iterator.__next__» slotArgs
  simp only [List.isEmpty_nil, Bool.not_true, Bool.false_eq_true, ↓reduceIte, bind_assoc, List.length_nil, bne_self_eq_false]
  refine wpAny_bind (wpAny_pure ?_)
  dsimp only
  refine wpAny_bind (wpAny_fieldsOf hI hdI ?_)
  dsimp only
  refine wpAny_bind (wpAny_setEntries_of ho hd hf ?_)
  rw [if_neg (by rw [hn]; simp)]
  refine wpAny_bind (hs _ _ _ ?_)
  dsimp only
  refine wpAny_bind (wpAny_setField hI hdI (by simp) ?_)
  refine wpAny_bind ?_
  simp only [newExc, newTuple]
  refine wpAny_bind (wpAny_newObj_type ?_ (by size_fits))
  refine wpAny_bind (m := firstArgMember _ _) (wpAny_of_eq (a := Value.none) (by first | rfl | (simp only [firstArgMember]; rfl)) ?_)
  refine wpAny_newObj_type ?_ (by size_fits)
  simp only [raiseNew]
  refine wpAny_bind (wpAny_handled ?_)
  rw [show A.in1.handled = none from hh]
  refine wpAny_bind (wpAny_pure (wpAny_throw ?_))
  refine wpAny_bind (wpAny_isInstance (T := "StopIteration") (b := true) ⟨_, Heap.get?_push_size _ rfl, rfl⟩ isSubtype_stop ?_)
  exact wpAny_pure (hQ _ (((Heap.SameBut.update ..).extBut.push _).push _))
theorem next_tup {I T : Addr} {p i n : Nat} {v : Value} {hs : Int} {oT : Obj} {vs : Array Value} {nT : Nat} {Q : Option Value → Shared → Prop} (hit : ItS s.heap I a (.ref T) i n ep) (x : SetD prog w s.heap a ss o es ep t) (hn : es.size = n)
    (hT : s.heap.get? T = some oT) (hTd : oT.data = .seq vs nT) (hv : vs[i]? = some (.int (p : Nat) 0)) (he : es[p]? = some (hs, v))
    (hQ : ∀ h', ItS h' I a (.ref T) (i + 1) n ep → Heap.SameBut I s.heap h' → Q (some v) { s with heap := h' }) : wpAny (model prog w) A (pyNext (.ref I)) Q E s := by
  obtain ⟨oI, hI, hc, hdI⟩ := id hit
  obtain ⟨ho, hex, hd, hel, hp, hb, hf, hpl, hled⟩ := x
  unfold pyNext
  refine wpAny_bind (wpAny_attempt (wpAny_callSpecial?_slot (name := Str.ofString "__next__") hit.typeIs sI_slot
    (wpAny_call_entry sI_slot hit.typeIs sI_entry ?_ (sI_args _))))
  unfold Builtin.«set_iterator.__next__» slotArgs
  simp only [List.isEmpty_nil, Bool.not_true, Bool.false_eq_true, ↓reduceIte, bind_assoc, List.length_nil, bne_self_eq_false]
  refine wpAny_bind (wpAny_pure ?_)
  dsimp only
  refine wpAny_bind (wpAny_fieldsOf hI hdI ?_)
  dsimp only
  refine wpAny_bind (wpAny_setEntries_of ho hd hf ?_)
  rw [if_neg (by rw [hn]; simp)]
  refine wpAny_bind (wpAny_seqItems hT hTd ?_)
  dsimp only
  rw [show (i : Int).toNat = i from rfl, hv]
  dsimp only
  unfold setNextDrawn
  refine wpAny_bind (wpAny_bind (wpAny_setState_of ho hd hf ?_))
  dsimp only
  rw [if_neg (by simp)]
  rw [show ((p : Nat) : Int).toNat = p from rfl, he]
  refine wpAny_bind (wpAny_pure ?_)
  refine wpAny_pure ?_
  refine wpAny_bind (wpAny_setField hI hdI (by simp) ?_)
  obtain ⟨o1, e1, c1, d1⟩ := put_field (i := 1) (x := rawInt ((i : Int) + 1)) hI hdI
  exact wpAny_pure ⟨_, rfl, wpAny_pure (hQ _ ⟨o1, e1, c1.trans hc, by rw [d1]; simp [rawInt]⟩ (Heap.SameBut.update ..))⟩
theorem end_tup {I T : Addr} {i n : Nat} {oT : Obj} {vs : Array Value} {nT : Nat} {Q : Option Value → Shared → Prop} (hh : A.handled = none) (hit : ItS s.heap I a (.ref T) i n ep) (x : SetD prog w s.heap a ss o es ep t) (hn : es.size = n)
    (hT : s.heap.get? T = some oT) (hTd : oT.data = .seq vs nT) (hv : vs[i]? = none)
    (hQ : ∀ h', Heap.ExtBut I s.heap h' → Q none { s with heap := h' }) : wpAny (model prog w) A (pyNext (.ref I)) Q E s := by
  obtain ⟨oI, hI, hc, hdI⟩ := id hit
  obtain ⟨ho, hex, hd, hel, hp, hb, hf, hpl, hled⟩ := x
  unfold pyNext
  refine wpAny_bind (wpAny_attempt (wpAny_callSpecial?_slot (name := Str.ofString "__next__") hit.typeIs sI_slot
    (wpAny_call_entry sI_slot hit.typeIs sI_entry ?_ (sI_args _))))
  unfold Builtin.«set_iterator.__next__» slotArgs
  simp only [List.isEmpty_nil, Bool.not_true, Bool.false_eq_true, ↓reduceIte, bind_assoc, List.length_nil, bne_self_eq_false]
  refine wpAny_bind (wpAny_pure ?_)
  dsimp only
  refine wpAny_bind (wpAny_fieldsOf hI hdI ?_)
  dsimp only
  refine wpAny_bind (wpAny_setEntries_of ho hd hf ?_)
  rw [if_neg (by rw [hn]; simp)]
  refine wpAny_bind (wpAny_seqItems hT hTd ?_)
  dsimp only
  rw [show (i : Int).toNat = i from rfl, hv]
  dsimp only
  refine wpAny_bind (wpAny_setField hI hdI (by simp) ?_)
  obtain ⟨o1, e1, c1, d1⟩ := put_field (i := 0) (x := rawInt 0) hI hdI
  refine wpAny_bind (wpAny_setField (s := { s with heap := s.heap.update I (Obj.mapFields (·.setIfInBounds 0 (rawInt 0))) }) e1 d1 (by simp) ?_)
  refine wpAny_bind ?_
  simp only [newExc, newTuple]
  refine wpAny_bind (wpAny_newObj_type ?_ (by size_fits))
  refine wpAny_bind (m := firstArgMember _ _) (wpAny_of_eq (a := Value.none) (by first | rfl | (simp only [firstArgMember]; rfl)) ?_)
  refine wpAny_newObj_type ?_ (by size_fits)
  simp only [raiseNew]
  refine wpAny_bind (wpAny_handled ?_)
  rw [show A.in1.handled = none from hh]
  refine wpAny_bind (wpAny_pure (wpAny_throw ?_))
  refine wpAny_bind (wpAny_isInstance (T := "StopIteration") (b := true) ⟨_, Heap.get?_push_size _ rfl, rfl⟩ isSubtype_stop ?_)
  exact wpAny_pure (hQ _ ((((Heap.SameBut.update ..).trans (Heap.SameBut.update ..)).extBut.push _).push _))
theorem self_it {I : Addr} {first : Value} {i n : Nat} {Q : Value → Shared → Prop} (hit : ItS s.heap I a first i n ep) (h : Q (.ref I) s) : wpAny (model prog w) A (pyIter (.ref I)) Q E s := by
  refine wpAny_pyIter_slot hit.typeIs sI_iter (wpAny_call_entry sI_iter hit.typeIs sI_itere ?_ (sI_itera _))
  unfold Builtin.«dict_keyiterator.__iter__»
  refine wpAny_bind (m := slotArgs "__iter__" 0 _) (wpAny_pure ?_)
  exact wpAny_pure ⟨_, rfl, "set_iterator", _, hit.typeIs, sI_slot.lookup, h⟩
theorem next_text {i sl : Nat} {A' : Around} {Q' : Option (Value × Nat) → Shared → Prop} {E' : Value → Shared → Prop} (x : SetD prog w s.heap a ss o es ep t) (hft : w.params.followText "set-order" = true)
    (h : Q' (((pickOrder (w.params.setOrder a ep) es)[i]?).map fun e => (e.2, sl)) s) : wpAny (model prog w) A' (setNext a sl i ep) Q' E' s := by
  obtain ⟨ho, hex, hd, hel, hp, hb, hf, hpl, hled⟩ := x
  unfold setNext setsByText
  refine wpAny_bind (wpAny_setState_of ho hd hf ?_)
  dsimp only
  refine wpAny_bind (wpAny_bind (wpAny_askSetting (wpAny_pure ?_)))
  rw [if_pos (show (⟨(model prog w).prog, (model prog w).w.params⟩ : Setting).params.followText "set-order" = true from hft)]
  rw [if_neg (by simp)]
  unfold setWalk setsByText
  refine wpAny_bind (wpAny_bind (wpAny_setState_of ho hd hf ?_))
  dsimp only
  refine wpAny_bind (wpAny_bind (wpAny_askSetting (wpAny_pure ?_)))
  rw [if_pos (show (⟨(model prog w).prog, (model prog w).w.params⟩ : Setting).params.followText "set-order" = true from hft)]
  exact wpAny_bind (wpAny_askSetting (wpAny_pure (wpAny_pure h)))
theorem next_one {sl : Nat} {A' : Around} {i : Nat} {Q' : Option (Value × Nat) → Shared → Prop} {E' : Value → Shared → Prop} (x : SetD prog w s.heap a ss o es ep t) (hft : w.params.followText "set-order" = false) (h1 : es.size ≤ 1)
    (h : Q' (match es[SetTable.below t.place sl]?, t.place[SetTable.below t.place sl]? with | some (_, x), some j => some (x, j + 1) | _, _ => none) s) : wpAny (model prog w) A' (setNext a sl i ep) Q' E' s := by
  obtain ⟨ho, hex, hd, hel, hp, hb, hf, hpl, hled⟩ := x
  have hle : t.led = true := by rw [hled, hft]; rfl
  unfold setNext setsByText
  refine wpAny_bind (wpAny_setState_of ho hd hf ?_)
  dsimp only
  refine wpAny_bind (wpAny_bind (wpAny_askSetting (wpAny_pure ?_)))
  rw [if_neg (show ¬ (⟨(model prog w).prog, (model prog w).w.params⟩ : Setting).params.followText "set-order" = true from fun z => by have := hft.symm.trans z; cases this)]
  refine wpAny_ite_split (fun hc => ?_) (fun hc => ?_)
  · change (!t.plain && decide (es.size > 1)) = true at hc
    rw [Bool.and_eq_true, decide_eq_true_eq] at hc
    omega
  · refine wpAny_bind ?_
    show wpAny (model prog w) A' (if (!t.led && !es.isEmpty) = true then unsupported "set:maker-not-led" else pure ()) _ _ _
    rw [if_neg (by rw [hle]; simp)]
    refine wpAny_pure ?_
    exact wpAny_pure h
theorem pick_perm {α : Type} (next : Nat → Nat) : ∀ (fuel k : Nat) (left : List α) (out : Array α), left.length = fuel → (pickOrder.go next fuel k left out).toList.Perm (out.toList ++ left)
  | 0, k, left, out, h => by
    rw [List.length_eq_zero_iff.mp h]
    unfold pickOrder.go
    simp
  | fuel + 1, k, left, out, h => by
    unfold pickOrder.go
    have hi : next k % left.length < left.length := Nat.mod_lt _ (by omega)
    rw [List.getElem?_eq_getElem hi]
    dsimp only
    refine (pick_perm next fuel (k + 1) _ _ (by rw [List.length_eraseIdx_of_lt hi]; omega)).trans ?_
    rw [Array.toList_push, List.append_assoc]
    exact List.Perm.append_left _ (era_perm left _ hi)
theorem pickOrder_perm {α : Type} (next : Nat → Nat) (xs : Array α) : (pickOrder next xs).toList.Perm xs.toList := by
  have := pick_perm next xs.size 0 xs.toList #[] (Array.length_toList ..)
  unfold pickOrder
  simpa using this
theorem map_range {α : Type} (xs : Array α) (ps : List Nat) (h : ps.Perm (List.range xs.size)) : ∃ ys : List α, ys.Perm xs.toList ∧ ps.length = ys.length ∧ ∀ (i p : Nat), ps[i]? = some p → xs[p]? = ys[i]? := by
  have hlt : ∀ p ∈ ps, p < xs.size := fun p hp => List.mem_range.mp (h.mem_iff.mp hp)
  refine ⟨ps.filterMap fun p => xs[p]?, ?_, ?_, ?_⟩
  · refine (h.filterMap _).trans ?_
    have : (List.range xs.size).filterMap (fun p => xs[p]?) = xs.toList := by
      have e : ∀ l : List α, (List.range l.length).filterMap (fun p => l[p]?) = l := fun l => by
        induction l with
        | nil => rfl
        | cons x l ih =>
          rw [List.length_cons, List.range_succ_eq_map, List.filterMap_cons, List.filterMap_map]
          simp only [List.getElem?_cons_zero]
          congr 1
      have := e xs.toList
      simpa using this
    rw [this]
  · have e : ∀ l : List Nat, (∀ p ∈ l, p < xs.size) → l.length = (l.filterMap fun p => xs[p]?).length := fun l => by
      induction l with
      | nil => intro _; rfl
      | cons p l ih =>
        intro hl
        rw [List.filterMap_cons, Array.getElem?_eq_getElem (hl p List.mem_cons_self)]
        dsimp only
        rw [List.length_cons, List.length_cons, ← ih fun q hq => hl q (List.mem_cons_of_mem _ hq)]
    exact e ps hlt
  · have e : ∀ (l : List Nat), (∀ p ∈ l, p < xs.size) → ∀ (i p : Nat), l[i]? = some p → xs[p]? = (l.filterMap fun p => xs[p]?)[i]? := fun l => by
      induction l with
      | nil => intro _ i p hi; cases hi
      | cons q l ih =>
        intro hl i p hi
        rw [List.filterMap_cons, Array.getElem?_eq_getElem (hl q List.mem_cons_self)]
        dsimp only
        cases i with
        | zero =>
          cases hi
          rw [Array.getElem?_eq_getElem (hl q List.mem_cons_self)]
          rfl
        | succ i => exact ih (fun q hq => hl q (List.mem_cons_of_mem _ hq)) i p hi
    exact e ps hlt
end
end L2
namespace L2
open PySem PySem.Spec PyProof.Rows PySem.W PySem.Calls
def PSt (xs : List Str) (i : Nat) (v : Value) : Prop := ∃ x t, xs[i]? = some x ∧ v = .str x t
section
variable {prog : Program} {w : World} {A : Around} {E : Value → Shared → Prop} {s : Shared} {a : Addr} {ss : List Str} {o : Obj} {es : Array (Int × Value)} {ep : Nat} {t : SetTable}
theorem ItS.at {h h' : Heap} {I : Addr} {first : Value} {i n : Nat} (x : ItS h I a first i n ep) (e : ∀ o, h.get? I = some o → h'.get? I = some o) : ItS h' I a first i n ep := let ⟨o, ho, r⟩ := x; ⟨o, e _ ho, r⟩
theorem SetD.at {h h' : Heap} (x : SetD prog w h a ss o es ep t) (e : ∀ o, h.get? a = some o → h'.get? a = some o) : SetD prog w h' a ss o es ep t := ⟨e _ x.1, x.2⟩
theorem moved_same {I : Addr} {h' : Heap} (e : Heap.SameBut I s.heap h') : Moved [I] Eq s { s with heap := h' } := ⟨fun b o hb q => (e.2 b fun z => hb (by rw [z]; exact List.mem_singleton.mpr rfl)).trans q, rfl, rfl, rfl, Nat.le_refl _⟩
theorem moved_ext {I : Addr} {h' : Heap} (e : Heap.ExtBut I s.heap h') : Moved [I] Eq s { s with heap := h' } := ⟨fun b o hb q => e b o (fun z => hb (by rw [z]; exact List.mem_singleton.mpr rfl)) q, rfl, rfl, rfl, Nat.le_refl _⟩
theorem keysS_at {x : SetD prog w s.heap a ss o es ep t} {l : List (Int × Value)} (hl : l.Perm es.toList) {i : Nat} {e : Int × Value} (he : l[i]? = some e) : PSt (l.map fun e => strOf e.2) i e.2 := by
  obtain ⟨⟨k, hk, _⟩, _⟩ := x.2.2.2.1 e (hl.mem_iff.mp (List.mem_of_getElem? he))
  obtain ⟨t', ht⟩ := Value.isStrOf_shape hk
  exact ⟨k, t', by rw [List.getElem?_map, he, Option.map_some, ht]; rfl, ht⟩
theorem walk_text {I : Addr} (hh : A.handled = none) (hne : a ≠ I) (hft : w.params.followText "set-order" = true) :
    WalksS prog w A I [I, a] [I] Eq es.size (PSt ((pickOrder (w.params.setOrder a ep) es).toList.map fun e => strOf e.2)) (fun i s => ItS s.heap I a (.int 0 0) i es.size ep ∧ SetD prog w s.heap a ss o es ep t) where
  sub := by simp
  grefl := fun _ => rfl
  gtrans := fun _ _ _ h1 h2 => h1.trans h2
  frame := fun i s h' tk st _ k => ⟨st.1.at fun o e => k I (by simp) o e, st.2.at fun o e => k a (by simp) o e⟩
  item := fun i s Q E hi st hQ => by
    have hsz : (pickOrder (w.params.setOrder a ep) es).size = es.size := by rw [← Array.length_toList, (pickOrder_perm _ es).length_eq, Array.length_toList]
    have he : (pickOrder (w.params.setOrder a ep) es)[i]? = some ((pickOrder (w.params.setOrder a ep) es)[i]'(by omega)) := Array.getElem?_eq_getElem (by omega)
    refine next_int (nx := 0) st.1 st.2 rfl (fun A' Q' E' q => next_text st.2 hft (by rw [he]; exact q)) fun h' it' sb => hQ _ _ ?_ ⟨it', st.2.at fun o e => (sb.2 a hne).trans e⟩ (moved_same sb)
    exact keysS_at (x := st.2) (pickOrder_perm _ es) (by rw [Array.getElem?_toList]; exact he)
  done := fun s Q E st hQ => by
    have hsz : (pickOrder (w.params.setOrder a ep) es).size = es.size := by rw [← Array.length_toList, (pickOrder_perm _ es).length_eq, Array.length_toList]
    have he : (pickOrder (w.params.setOrder a ep) es)[es.size]? = none := Array.getElem?_eq_none (by omega)
    exact end_int hh st.1 st.2 rfl (fun A' Q' E' q => next_text st.2 hft (by rw [he]; exact q)) fun h' e => hQ _ (moved_ext e)
  self := fun i s Q E st h => self_it st.1 h
theorem below_one (j k : Nat) : SetTable.below #[j] k = if j < k then 1 else 0 := by
  unfold SetTable.below
  show SetTable.below.go #[j] k 1 0 1 = _
  unfold SetTable.below.go
  simp only [Nat.lt_one_iff, ↓reduceIte]
  show (if (#[j] : Array Nat).getD 0 k < k then SetTable.below.go #[j] k 0 1 1 else SetTable.below.go #[j] k 0 0 0) = _
  show (if j < k then SetTable.below.go #[j] k 0 1 1 else SetTable.below.go #[j] k 0 0 0) = _
  unfold SetTable.below.go
  rfl
theorem walk_one {I : Addr} {j : Nat} {e : Int × Value} (hh : A.handled = none) (hne : a ≠ I) (hft : w.params.followText "set-order" = false) (hes : es = #[e]) (hj : t.place = #[j]) :
    WalksS prog w A I [I, a] [I] Eq 1 (PSt (es.toList.map fun e => strOf e.2)) (fun i s => ItS s.heap I a (.int (if i = 0 then 0 else ((j + 1 : Nat) : Int)) 0) i 1 ep ∧ SetD prog w s.heap a ss o es ep t) where
  sub := by simp
  grefl := fun _ => rfl
  gtrans := fun _ _ _ h1 h2 => h1.trans h2
  frame := fun i s h' tk st _ k => ⟨st.1.at fun o e => k I (by simp) o e, st.2.at fun o e => k a (by simp) o e⟩
  item := fun i s Q E hi st hQ => by
    have hi0 : i = 0 := by omega
    subst hi0
    refine next_int (nx := j + 1) (v := e.2) st.1 st.2 (by rw [hes]; rfl) (fun A' Q' E' q => next_one st.2 hft (by rw [hes]; exact Nat.le_refl _) ?_) fun h' it' sb => hQ _ _ ?_ ⟨it', st.2.at fun o e => (sb.2 a hne).trans e⟩ (moved_same sb)
    · rw [hj, show (if (0 : Nat) = 0 then (0 : Int) else ((j + 1 : Nat) : Int)).toNat = 0 from rfl, below_one, if_neg (Nat.not_lt_zero _), hes]
      exact q
    · exact keysS_at (x := st.2) (.refl _) (e := e) (by rw [hes]; rfl)
  done := fun s Q E st hQ => by
    refine end_int hh st.1 st.2 (by rw [hes]; rfl) (fun A' Q' E' q => next_one st.2 hft (by rw [hes]; exact Nat.le_refl _) ?_) fun h' e => hQ _ (moved_ext e)
    rw [hj, show (if (1 : Nat) = 0 then (0 : Int) else ((j + 1 : Nat) : Int)).toNat = j + 1 from rfl, below_one, if_pos (Nat.lt_succ_self _), hes]
    exact q
  self := fun i s Q E st h => self_it st.1 h
theorem walk_tup {I T : Addr} {oT : Obj} {ps : List Nat} {nT : Nat} {ys : List (Int × Value)} (hh : A.handled = none) (hne : a ≠ I) (hnT : T ≠ I) (hTd : oT.data = .seq (ps.map fun i => Value.int (i : Nat) 0).toArray nT)
    (hy : ys.Perm es.toList) (hl : ps.length = es.size) (hp : ∀ (i p : Nat), ps[i]? = some p → es[p]? = ys[i]?) :
    WalksS prog w A I [I, a, T] [I] Eq es.size (PSt (ys.map fun e => strOf e.2)) (fun i s => ItS s.heap I a (.ref T) i es.size ep ∧ SetD prog w s.heap a ss o es ep t ∧ s.heap.get? T = some oT) where
  sub := by simp
  grefl := fun _ => rfl
  gtrans := fun _ _ _ h1 h2 => h1.trans h2
  frame := fun i s h' tk st _ k => ⟨st.1.at fun o e => k I (by simp) o e, st.2.1.at fun o e => k a (by simp) o e, k T (by simp) _ st.2.2⟩
  item := fun i s Q E hi st hQ => by
    have hi' : i < ps.length := by omega
    have e1 := List.getElem?_eq_getElem hi'
    have hyl : ys.length = es.size := by rw [hy.length_eq, Array.length_toList]
    have e2 := List.getElem?_eq_getElem (l := ys) (i := i) (by omega)
    have e3 := (hp i _ e1).trans e2
    refine next_tup (hs := _) st.1 st.2.1 rfl st.2.2 hTd (p := ps[i]) ?_ (v := (ys[i]'(by omega)).2) e3 fun h' it' sb => hQ _ _ ?_ ⟨it', st.2.1.at fun o e => (sb.2 a hne).trans e, (sb.2 T hnT).trans st.2.2⟩ (moved_same sb)
    · rw [List.getElem?_toArray, List.getElem?_map, e1]; rfl
    · exact keysS_at (x := st.2.1) hy e2
  done := fun s Q E st hQ => by
    refine end_tup hh st.1 st.2.1 rfl st.2.2 hTd ?_ fun h' e => hQ _ (moved_ext e)
    rw [List.getElem?_toArray, List.getElem?_map, List.getElem?_eq_none (by omega)]; rfl
  self := fun i s Q E st h => self_it st.1 h
theorem setS_walk {Q : Value → Shared → Prop} (hh : A.handled = none) (hS : SetS prog w s.heap a ss) (hne : ss ≠ [])
    (h : ∀ (s1 : Shared) (I : Addr) (fp : List Addr) (St : Nat → Shared → Prop) (xs : List Str), (∀ b o, s.heap.get? b = some o → s1.heap.get? b = some o) → s1.gens = s.gens → s1.os = s.os → s1.toks = s.toks → xs.Perm ss → s.heap.objs.size ≤ I →
      (∀ b ∈ fp, b = a ∨ s.heap.objs.size ≤ b) → WalksS prog w A I fp [I] Eq xs.length (PSt xs) St → St 0 s1 → Q (.ref I) s1) : wpAny (model prog w) A (pyIter (.ref a)) Q E s := by
  obtain ⟨o, es, ep, t, x⟩ := hS
  have hlt := Heap.lt_size x.1
  have hlen : es.size = ss.length := by rw [← x.2.2.2.2.1.length_eq]; unfold keysS; rw [List.length_map, Array.length_toList]
  have hpos : 0 < es.size := by rw [hlen]; exact List.length_pos_iff.mpr hne
  refine setS_iter x (fun hc => ?_) (fun hft ps d hps => ?_)
  · have x1 : SetD prog w (s.heap.push { cls := .type "set_iterator", data := .fields #[.int 0 0, .int 0 0, .ref a, .int es.size 0, .int ep 0] }) a ss o es ep t := x.at fun o e => Heap.get?_push_of_some _ e
    cases hft : w.params.followText "set-order" with
    | true =>
      have W := walk_text (prog := prog) (o := o) (ss := ss) (es := es) (ep := ep) (t := t) hh (Nat.ne_of_lt hlt) hft
      refine h _ _ [s.heap.objs.size, a] (fun i s' => ItS s'.heap s.heap.objs.size a (.int 0 0) i es.size ep ∧ SetD prog w s'.heap a ss o es ep t) ((pickOrder (w.params.setOrder a ep) es).toList.map fun e : Int × Value => strOf e.2) (fun b o e => Heap.get?_push_of_some _ e) rfl rfl rfl (((pickOrder_perm _ es).map fun e : Int × Value => strOf e.2).trans (show (es.toList.map fun e : Int × Value => strOf e.2).Perm ss from x.2.2.2.2.1)) (Nat.le_refl _) (fun b hb => ?_) ?_ ⟨⟨_, Heap.get?_push_size _ rfl, rfl, rfl⟩, x1⟩
      · rcases List.mem_cons.mp hb with rfl | hb
        · exact .inr (Nat.le_refl _)
        · exact .inl (List.mem_singleton.mp hb)
      · rw [List.length_map, (pickOrder_perm _ es).length_eq, Array.length_toList]
        exact W
    | false =>
      have h1 : es.size = 1 := by
        rcases hc with hc | hc
        · rw [hft] at hc; cases hc
        · omega
      obtain ⟨e, hes⟩ : ∃ e, es = #[e] := by
        obtain ⟨l⟩ := es
        match l, h1 with
        | [e], _ => exact ⟨e, rfl⟩
      have hfit := x.2.2.2.2.2.2.1
      obtain ⟨j, hj⟩ : ∃ j, t.place = #[j] := by
        have hps : t.place.size = 1 := by
          simp only [SetTable.fits, Bool.and_eq_true, beq_iff_eq] at hfit
          omega
        revert hps
        generalize t.place = pl
        intro hps
        obtain ⟨l⟩ := pl
        match l, hps with
        | [j], _ => exact ⟨j, rfl⟩
      have W := walk_one (prog := prog) (o := o) (ss := ss) (ep := ep) hh (Nat.ne_of_lt hlt) hft hes hj
      refine h _ _ [s.heap.objs.size, a] (fun i s' => ItS s'.heap s.heap.objs.size a (.int (if i = 0 then 0 else ((j + 1 : Nat) : Int)) 0) i 1 ep ∧ SetD prog w s'.heap a ss o es ep t) (es.toList.map fun e : Int × Value => strOf e.2) (fun b o e => Heap.get?_push_of_some _ e) rfl rfl rfl (show (es.toList.map fun e : Int × Value => strOf e.2).Perm ss from x.2.2.2.2.1) (Nat.le_refl _) (fun b hb => ?_) ?_ ⟨⟨_, Heap.get?_push_size _ rfl, rfl, by rw [h1]; rfl⟩, x1⟩
      · rcases List.mem_cons.mp hb with rfl | hb
        · exact .inr (Nat.le_refl _)
        · exact .inl (List.mem_singleton.mp hb)
      · rw [List.length_map, Array.length_toList, h1]
        exact W
  · obtain ⟨ys, hy, hl, hp⟩ := map_range es ps hps
    have hl' : ps.length = es.size := by rw [hps.length_eq, List.length_range]
    have hsz : (s.heap.push { cls := .type "tuple", data := .seq (ps.map fun i => Value.int (i : Nat) 0).toArray }).objs.size = s.heap.objs.size + 1 := Heap.size_push _ _
    have W := walk_tup (prog := prog) (w := w) (A := A) (a := a) (ss := ss) (o := o) (ep := ep) (t := t) (I := s.heap.objs.size + 1) (T := s.heap.objs.size) (oT := { cls := .type "tuple", data := .seq (ps.map fun i => Value.int (i : Nat) 0).toArray }) (ps := ps) hh (Nat.ne_of_lt (Nat.lt_succ_of_lt hlt)) (Nat.ne_of_lt (Nat.lt_succ_self _)) rfl hy hl' hp
    refine h _ _ [s.heap.objs.size + 1, a, s.heap.objs.size] (fun i s' => ItS s'.heap (s.heap.objs.size + 1) a (.ref s.heap.objs.size) i es.size ep ∧ SetD prog w s'.heap a ss o es ep t ∧ s'.heap.get? s.heap.objs.size = some { cls := .type "tuple", data := .seq (ps.map fun i => Value.int (i : Nat) 0).toArray }) (ys.map fun e : Int × Value => strOf e.2) (fun b o e => Heap.get?_push_of_some _ (Heap.get?_push_of_some _ e)) rfl rfl rfl ((hy.map fun e : Int × Value => strOf e.2).trans (show (es.toList.map fun e : Int × Value => strOf e.2).Perm ss from x.2.2.2.2.1)) (Nat.le_succ _) (fun b hb => ?_) ?_ ⟨⟨_, by rw [← hsz]; exact Heap.get?_push_size _ rfl, rfl, rfl⟩, x.at fun o e => Heap.get?_push_of_some _ (Heap.get?_push_of_some _ e), Heap.get?_push_of_some _ (Heap.get?_push_size _ rfl)⟩
    · rcases List.mem_cons.mp hb with rfl | hb
      · exact .inr (Nat.le_succ _)
      · rcases List.mem_cons.mp hb with rfl | hb
        · exact .inl rfl
        · exact .inr (by rw [List.mem_singleton.mp hb]; exact Nat.le_refl _)
    · rw [List.length_map, hy.length_eq, Array.length_toList]
      exact W
theorem hint_set {r : Addr} {Q : Bool → Shared → Prop} (hT : s.TypeIs (.ref r) "set") (h : Q false s) : wpAny (model prog w) A (Builtin.List.listLengthHint (.ref r)) Q E s := by
  unfold Builtin.List.listLengthHint
  refine wpAny_bind (wpAny_specialOf hT PySem.F.slot_set_len.lookup ?_)
  generalize hid : ("set.__len__" : String) = id0
  wp_delta
  rw [show splitId id0 = some ("set", "__len__") from by subst hid; decide +kernel]
  subst hid
  refine wpAny_bind (wpAny_isInstance (T := "set") (b := true) hT (by rw [isSubtype_type]; kernel_rfl) ?_)
  refine wpAny_ite_split (fun hab => absurd hab (by decide)) (fun _ => ?_)
  refine wpAny_ite_split (fun _ => ?_) (fun hab => absurd (by decide +kernel) hab)
  refine wpAny_bind (wpAny_typeOf hT ?_)
  exact wpAny_pure h
theorem items_strs : ∀ {xs : List Str} {acc : Array Value}, ItemsOf (PSt xs) acc xs.length → StrsAre acc.toList xs := by
  intro xs acc h
  have e : ∀ (vs : List Value) (xs : List Str), vs.length = xs.length → (∀ i v, vs[i]? = some v → PSt xs i v) → StrsAre vs xs := fun vs => by
    induction vs with
    | nil => intro xs hl _; cases xs with
      | nil => exact .nil
      | cons x xs => cases hl
    | cons v vs ih =>
      intro xs hl hv
      cases xs with
      | nil => cases hl
      | cons x xs =>
        obtain ⟨y, t, e1, e2⟩ := hv 0 v rfl
        cases e1
        subst e2
        refine .cons x t (ih xs (Nat.succ.inj hl) fun i u hu => ?_)
        obtain ⟨y, t', e1, e2⟩ := hv (i + 1) u hu
        exact ⟨y, t', e1, e2⟩
  refine e _ _ ?_ fun i v hv => ?_
  · rw [Array.length_toList]; exact h.1
  · rw [Array.getElem?_toList] at hv
    exact h.2 i v hv
theorem collect_set {R : List Value → Shared → Prop} (hh : A.handled = none) (hS : SetS prog w s.heap a ss) (hne : ss ≠ [])
    (h : ∀ (s' : Shared) (acc : List Value) (xs : List Str), (∀ b o, s.heap.get? b = some o → s'.heap.get? b = some o) → s'.gens = s.gens → s'.os = s.os → s.heap.objs.size < s'.heap.objs.size → StrsAre acc xs → xs.Perm ss → R acc s') :
    wpAny (model prog w) A (collect (.ref a)) R E s := by
  have hlt : a < s.heap.objs.size := by obtain ⟨_, _, _, _, x⟩ := hS; exact Heap.lt_size x.1
  unfold collect
  refine wpAny_bind (wpAny_runValue (codeAny_builtin entry_proto_collect' ?_))
  rw [Around.under_plainId PySem.F.plain_proto_collect _]
  show wpAny _ A.in1 (newList [] >>= fun l => again (.builtin "list.__iadd__" ⟨[l, .ref a], []⟩)) _ _ s
  refine wpAny_bind (wpAny_newObj_type ?_)
  refine wpAny_pure ⟨plainId_quiet PySem.F.plain_list_iadd _, codeAny_builtin entry_list_iadd' ?_⟩
  rw [Around.under_plainId PySem.F.plain_list_iadd _]
  have hS₁ : (s.heap.push { cls := .type "list", data := .seq ([] : List Value).toArray }).get? s.heap.objs.size = some { cls := .type "list", data := .seq #[] } := Heap.get?_push_size _ rfl
  have hSet : SetS prog w (s.heap.push { cls := .type "list", data := .seq ([] : List Value).toArray }) a ss := hS.at fun o e => Heap.get?_push_of_some _ e
  show wpAny _ A.in1 (Builtin.List.listExtendWith (.ref s.heap.objs.size) (.ref a) (.ref s.heap.objs.size)) _ _ _
  unfold Builtin.List.listExtendWith
  have hT : Shared.TypeIs { s with heap := s.heap.push { cls := .type "list", data := .seq ([] : List Value).toArray } } (.ref a) "set" := by
    obtain ⟨o, _, _, _, x⟩ := hSet
    exact ⟨o, x.1, x.2.1.1⟩
  refine wpAny_bind (wpAny_typeOf (T := "set") hT ?_)
  have h1 : Builtin.List.listSameRef (.ref s.heap.objs.size) (.ref a) = false := by simp [Builtin.List.listSameRef, Nat.ne_of_gt hlt]
  simp only [h1, show (Value.type "set" == Value.type "list") = false by decide, show (Value.type "set" == Value.type "tuple") = false by decide, Bool.or_false, Bool.false_eq_true, if_false]
  refine wpAny_bind (setS_walk (s := { s with heap := s.heap.push { cls := .type "list", data := .seq ([] : List Value).toArray } }) (by simp [hh]) hSet hne fun s1 I fp St xs k eg eo et hp hI hfp W st => ?_)
  have hL1 := k _ _ hS₁
  have hsz : (s.heap.push { cls := .type "list", data := .seq ([] : List Value).toArray }).objs.size = s.heap.objs.size + 1 := Heap.size_push _ _
  have hSf : s.heap.objs.size ∉ fp := fun hm => by
    rcases hfp _ hm with z | z
    · exact Nat.ne_of_gt hlt z
    · change (s.heap.push { cls := .type "list", data := .seq ([] : List Value).toArray }).objs.size ≤ _ at z
      omega
  have hSI : s.heap.objs.size ≠ I := fun e => by
    change (s.heap.push { cls := .type "list", data := .seq ([] : List Value).toArray }).objs.size ≤ I at hI
    omega
  have hn : xs.length ≤ sizeLine := by
    have := hS.len
    rw [hp.length_eq, sizeLine_eq]
    unfold scanBound at this
    omega
  refine wpAny_bind (wpAny_holding (hint_set ?_ ?_))
  · obtain ⟨o, ho, hc⟩ := hT
    exact ⟨o, k _ _ ho, hc⟩
  have fin : ∀ (s' : Shared) (acc' : Array Value) (c' : Nat), (∀ b o, s.heap.get? b = some o → s'.heap.get? b = some o) → s'.gens = s.gens → s'.os = s.os → s.toks ≤ s'.toks → s'.heap.get? s.heap.objs.size = some { cls := .type "list", dict := none, data := .seq acc' c', slots := #[] } → ItemsOf (PSt xs) acc' xs.length →
      wpAny (model prog w) A (load s.heap.objs.size >>= fun o => match o.data with | .seq xs _ => pure xs.toList | _ => unsupported "internal:collect") R E s' := fun s' acc' c' e1 e2 e3 e4 e5 e6 =>
    wpAny_bind (wpAny_load e5 (wpAny_pure (h s' _ xs e1 e2 e3 (Heap.lt_size e5) (items_strs e6) hp)))
  have kk : ∀ (s' : Shared) (h2 : Heap), (∀ b o, b ≠ s.heap.objs.size → s1.heap.get? b = some o → h2.get? b = some o) → Moved (s.heap.objs.size :: [I]) Eq { s1 with heap := h2 } s' → (∀ b o, s.heap.get? b = some o → s'.heap.get? b = some o) ∧ s'.gens = s.gens ∧ s'.os = s.os ∧ s.toks ≤ s'.toks := fun s' h2 q hm => by
    refine ⟨fun b o e => ?_, ?_, hm.os.trans eo, ?_⟩
    · have hb := Heap.lt_size e
      refine hm.heap b o (fun z => ?_) (q b o (Nat.ne_of_lt hb) (k b o (Heap.get?_push_of_some _ e)))
      rcases List.mem_cons.mp z with z | z
      · exact Nat.ne_of_lt hb z
      · change (s.heap.push { cls := .type "list", data := .seq ([] : List Value).toArray }).objs.size ≤ I at hI
        have z' := List.mem_singleton.mp z
        rw [← z', hsz] at hI
        exact absurd hb (Nat.not_lt.mpr (Nat.le_of_succ_le hI))
    · exact hm.gens.symm.trans eg
    · have := hm.toks
      have et' : s1.toks = s.toks := et
      rw [← et']
      exact this
  refine wpAny_ite_split (fun _ => ?_) (fun _ => wpAny_pure ⟨plainId_quiet PySem.F.plain_extend_loop _, ?_⟩)
  · refine wpAny_bind (wpAny_rule ?_)
    refine wpAny_bind ?_
    show wpAny _ _ (updateSeq s.heap.objs.size (·.push .none) >>= fun _ => updateSeq s.heap.objs.size (·.pop)) _ _ _
    refine wpAny_bind (wpAny_updateSeq hL1 rfl ?_)
    have hS₂ := Heap.get?_update_self (Obj.mapSeq (·.push Value.none)) hL1 rfl
    refine wpAny_updateSeq (hz := by seq_fits) hS₂ rfl ?_
    have hS₃ := Heap.get?_update_self (Obj.mapSeq (·.pop)) hS₂ rfl
    have hk : ∀ b o, b ≠ s.heap.objs.size → s1.heap.get? b = some o → ((s1.heap.update s.heap.objs.size (Obj.mapSeq (·.push Value.none))).update s.heap.objs.size (Obj.mapSeq (·.pop))).get? b = some o := fun b o hb e =>
      (Heap.get?_update_other _ _ (Ne.symm hb)).trans ((Heap.get?_update_other _ _ (Ne.symm hb)).trans e)
    refine wpAny_pure ⟨plainId_quiet PySem.F.plain_extend_loop _, ?_⟩
    refine codeAny_extend_loopS W hn s.heap.objs.size hSf (.ref s.heap.objs.size) xs.length 0 _ #[] _ rfl (Nat.zero_le _) ?_ hS₃ (ItemsOf.nil _) fun s' acc' c' hm hS' hacc => ?_
    · exact W.frame 0 s1 _ s1.toks st (Nat.le_refl _) fun b hb o e => hk b o (fun z => hSf (z ▸ hb)) e
    · obtain ⟨e1, e2, e3, e4⟩ := kk s' _ hk hm
      exact fin s' acc' c' e1 e2 e3 e4 hS' hacc
  · refine codeAny_extend_loopS W hn s.heap.objs.size hSf (.ref s.heap.objs.size) xs.length 0 _ #[] _ rfl (Nat.zero_le _) st hL1 (ItemsOf.nil _) fun s' acc' c' hm hS' hacc => ?_
    obtain ⟨e1, e2, e3, e4⟩ := kk s' s1.heap (fun b o _ e => e) hm
    exact fin s' acc' c' e1 e2 e3 e4 hS' hacc
theorem sorted_set {Q : Value → Shared → Prop} (hh : A.handled = none) (hS : SetS prog w s.heap a ss) (hne : ss ≠ []) (h64 : ss.length < 64)
    (h : ∀ (s' : Shared) (D : Addr) (c : Nat) (out : List Value) (ss' : List Str), (∀ b o, s.heap.get? b = some o → s'.heap.get? b = some o) → s'.gens = s.gens → s'.os = s.os → s.heap.objs.size ≤ D → s'.heap.get? D = some (seqObj "list" out.toArray c) →
      StrsAre out ss' → ss'.Perm ss → sortedS ss' = true → Q (.ref D) s') :
    wpAny (model prog w) A (call (.builtin "sorted") [.ref a]) Q E s := by
  refine Calls.call_function_entry kind_sorted plain_sorted entry_sorted (args_sorted1 _) ?_
  unfold Builtin.«sorted»
  refine wpAny_bind (m := checkCount "sorted" 1 1 _) (wpAny_pure ?_)
  refine wpAny_bind (collect_set (by simp [hh]) hS hne fun s1 vs xs k eg eo et hvs hp => ?_)
  have hlen : vs.length = ss.length := by rw [← hp.length_eq, ← hvs.strs, List.length_map]
  refine wpAny_bind (wpAny_newList ?_ (by rw [sizeLine_eq]; omega))
  have hoL : (s1.heap.push (seqObj "list" vs.toArray 0)).get? s1.heap.objs.size = some (seqObj "list" vs.toArray 0) := Heap.get?_push_size _ rfl
  show wpAny _ _ _ _ _ { s1 with heap := s1.heap.push (seqObj "list" vs.toArray 0) }
  refine wpAny_bind (wpAny_holding (wpAny_call_entry slot_list_sort ⟨_, hoL, rfl⟩ entry_list_sort (list_sort_treeK (s := { s1 with heap := s1.heap.push (seqObj "list" vs.toArray 0) }) strKind_oneLt hoL hvs.keysOf (fun v₁ v₂ rest e => keyKind_strs (by rw [← e]; exact hvs)) (by omega) fun st' a1 a2 => ⟨_, rfl, ?_⟩) (args_list_sort _)))
  obtain ⟨ss', q1, q2, q3⟩ := sorted_out_str hvs a1 a2
  obtain ⟨c, hc⟩ := sortedHeap_at (vs := vs) (out := ((arrOf st').map (·.2))) hoL
  refine wpAny_pure ⟨_, rfl, h _ s1.heap.objs.size c _ ss' (fun b o e => ?_) eg eo ?_ (by rw [Array.toArray_toList]; exact hc) q1 (q2.trans hp) q3⟩
  · have hb := Heap.lt_size (k b o e)
    show (sortedHeap (s1.heap.push (seqObj "list" vs.toArray 0)) s1.heap.objs.size vs ((arrOf st').map (·.2))).get? b = some o
    rw [sortedHeap_old (Nat.ne_of_lt hb) (by rw [size_push']; exact Nat.lt_succ_of_lt hb)]
    exact Heap.get?_push_of_some _ (k b o e)
  · exact Nat.le_of_lt et
end
end L2
namespace L2
open PySem PySem.Spec PyProof.Rows PySem.W PySem.Calls
theorem lt_or_eqT {a b : List Nat} (h : ¬ b < a) : a < b ∨ a = b := by
  by_cases q : a < b
  · exact .inl q
  · exact .inr (List.le_antisymm (List.not_lt.mp h) (List.not_lt.mp q))
def insT (x : List Nat) : List (List Nat) → List (List Nat)
  | [] => [x]
  | y :: r => if x < y then x :: y :: r else if x = y then y :: r else y :: insT x r
def riseT (l : List (List Nat)) : List (List Nat) := l.foldr insT []
def stepT (ss : List (List Nat)) (x : List Nat) : List (List Nat) := if x ∈ ss then ss else ss ++ [x]
theorem insT_mem (x y : List Nat) : ∀ l, y ∈ insT x l ↔ y = x ∨ y ∈ l
  | [] => by simp [insT]
  | z :: r => by
    unfold insT
    split
    · simp
    · split
      · rename_i e
        subst e
        simp
      · rw [List.mem_cons, insT_mem x y r, List.mem_cons]
        constructor
        · rintro (h | h | h)
          · exact .inr (.inl h)
          · exact .inl h
          · exact .inr (.inr h)
        · rintro (h | h | h)
          · exact .inr (.inl h)
          · exact .inl h
          · exact .inr (.inr h)
theorem insT_sorted (x : List Nat) : ∀ l, l.Pairwise (· < ·) → (insT x l).Pairwise (· < ·)
  | [], _ => List.pairwise_singleton _ _
  | y :: r, h => by
    obtain ⟨h1, h2⟩ := List.pairwise_cons.mp h
    unfold insT
    split
    · rename_i hxy
      refine List.pairwise_cons.mpr ⟨fun z hz => ?_, h⟩
      rcases List.mem_cons.mp hz with rfl | hz
      · exact hxy
      · exact List.lt_trans hxy (h1 z hz)
    · split
      · exact h
      · rename_i hn he
        refine List.pairwise_cons.mpr ⟨fun z hz => ?_, insT_sorted x r h2⟩
        rcases (insT_mem x z r).mp hz with rfl | hz
        · rcases lt_or_eqT hn with q | q
          · exact q
          · exact absurd q.symm he
        · exact h1 z hz
theorem riseT_sorted : ∀ l, (riseT l).Pairwise (· < ·)
  | [] => .nil
  | x :: l => insT_sorted x _ (riseT_sorted l)
theorem riseT_mem (y : List Nat) : ∀ l, y ∈ riseT l ↔ y ∈ l
  | [] => Iff.rfl
  | x :: l => by
    show y ∈ insT x (riseT l) ↔ _
    rw [insT_mem, riseT_mem y l, List.mem_cons]
theorem eq_of_rise : ∀ (l1 l2 : List (List Nat)), l1.Pairwise (· < ·) → l2.Pairwise (· < ·) → (∀ x, x ∈ l1 ↔ x ∈ l2) → l1 = l2
  | [], [], _, _, _ => rfl
  | [], y :: l2, _, _, h => nomatch (h y).mpr List.mem_cons_self
  | x :: l1, [], _, _, h => nomatch (h x).mp List.mem_cons_self
  | x :: l1, y :: l2, h1, h2, h => by
    obtain ⟨a1, a2⟩ := List.pairwise_cons.mp h1
    obtain ⟨b1, b2⟩ := List.pairwise_cons.mp h2
    have e : x = y := by
      rcases List.mem_cons.mp ((h x).mp List.mem_cons_self) with e | e
      · exact e
      · rcases List.mem_cons.mp ((h y).mpr List.mem_cons_self) with q | q
        · exact q.symm
        · exact absurd (List.lt_trans (b1 x e) (a1 y q)) (List.lt_irrefl y)
    subst e
    rw [eq_of_rise l1 l2 a2 b2 fun z => ?_]
    constructor
    · intro hz
      rcases List.mem_cons.mp ((h z).mp (List.mem_cons_of_mem _ hz)) with q | q
      · subst q; exact absurd (a1 z hz) (List.lt_irrefl z)
      · exact q
    · intro hz
      rcases List.mem_cons.mp ((h z).mpr (List.mem_cons_of_mem _ hz)) with q | q
      · subst q; exact absurd (b1 z hz) (List.lt_irrefl z)
      · exact q
theorem stepS_map (l : List (List Nat)) (x : List Nat) : stepS (l.map S) (S x) = (stepT l x).map S := by
  unfold stepS stepT
  by_cases h : x ∈ l
  · rw [if_pos h, if_pos (List.mem_map.mpr ⟨x, h, rfl⟩)]
  · rw [if_neg h, if_neg fun z => ?_, List.map_append]; rfl
    obtain ⟨y, hy, e⟩ := List.mem_map.mp z
    rw [S_inj e] at hy
    exact h hy
theorem foldS_map : ∀ (xs acc : List (List Nat)), (xs.map S).foldl stepS (acc.map S) = (xs.foldl stepT acc).map S
  | [], acc => rfl
  | x :: xs, acc => by
    rw [List.map_cons, List.foldl_cons, List.foldl_cons, stepS_map]
    exact foldS_map xs _
theorem foldT_mem (y : List Nat) : ∀ (xs acc : List (List Nat)), y ∈ xs.foldl stepT acc ↔ y ∈ acc ∨ y ∈ xs
  | [], acc => by simp
  | x :: xs, acc => by
    rw [List.foldl_cons, foldT_mem y xs]
    unfold stepT
    split
    · rename_i h
      constructor
      · rintro (q | q)
        · exact .inl q
        · exact .inr (List.mem_cons_of_mem _ q)
      · rintro (q | q)
        · exact .inl q
        · rcases List.mem_cons.mp q with rfl | q
          · exact .inl h
          · exact .inr q
    · rw [List.mem_append, List.mem_singleton, List.mem_cons, or_assoc]
theorem foldT_nodup : ∀ (xs acc : List (List Nat)), acc.Nodup → (xs.foldl stepT acc).Nodup
  | [], acc, h => h
  | x :: xs, acc, h => by
    rw [List.foldl_cons]
    refine foldT_nodup xs _ ?_
    unfold stepT
    split
    · exact h
    · rename_i hx
      rw [List.nodup_append]
      refine ⟨h, by simp, fun a ha b hb => ?_⟩
      rw [List.mem_singleton] at hb
      subst hb
      intro e
      subst e
      exact hx ha
theorem sortedS_pair : ∀ (l : List Str), sortedS l = true → (l.map fun x => x.cps.toList).Pairwise (fun a b => ¬ b < a)
  | [], _ => .nil
  | [x], _ => List.pairwise_singleton _ _
  | x :: y :: r, h => by
    have h' : risingS x (y :: r) = true := h
    unfold risingS at h'
    rw [Bool.and_eq_true, Bool.not_eq_true', ltCps_eq, decide_eq_false_iff_not] at h'
    have ih := sortedS_pair (y :: r) h'.2
    rw [List.map_cons]
    refine List.pairwise_cons.mpr ⟨fun z hz => ?_, ih⟩
    rw [List.map_cons] at hz ih
    rcases List.mem_cons.mp hz with rfl | hz
    · exact h'.1
    · have := (List.pairwise_cons.mp ih).1 z hz
      intro q
      rcases lt_or_eqT h'.1 with q1 | q1
      · exact this (List.lt_trans q q1)
      · rw [q1] at q; exact this q
theorem rise_of {l : List (List Nat)} {ss : List Str} (hp : ss.Perm ((l.map S).foldl stepS [])) (hs : sortedS ss = true) : ss = (riseT l).map S := by
  have e := foldS_map l []
  rw [List.map_nil] at e
  rw [e] at hp
  have hq : (ss.map fun x : Str => x.cps.toList) = riseT l := by
    have hp2 : (ss.map fun x : Str => x.cps.toList).Perm (l.foldl stepT []) := by
      refine (hp.map _).trans ?_
      rw [List.map_map]
      rw [show ((fun x : Str => x.cps.toList) ∘ S) = id from funext fun a => S_cps a, List.map_id]
    have hn := hp2.nodup_iff.mpr (foldT_nodup l [] .nil)
    refine eq_of_rise _ _ ?_ (riseT_sorted l) fun x => ?_
    · refine (List.Pairwise.and (sortedS_pair ss hs) hn).imp fun {a b} h => ?_
      rcases lt_or_eqT h.1 with q | q
      · exact q
      · exact absurd q h.2
    · rw [riseT_mem, hp2.mem_iff, foldT_mem]
      simp
  have hm : ∀ x : Str, S x.cps.toList = x := fun x => by cases x; simp [S]
  rw [← hq, List.map_map]
  conv => lhs; rw [← List.map_id ss]
  exact List.map_congr_left fun x _ => (hm x).symm
section
variable {X : Cx}
theorem Inv.drew {X : Cx} {pins : List (Addr × Obj)} {σ : St} {H : Hp} {s : Shared} {d : Drawn} (I : Inv X pins σ H s) : Inv X pins σ H { s with drawn := d } := ⟨I.ok, I.os, I.bare, I.base, I.loc, I.cell, I.free, I.freeC, I.pin, I.hok, I.len⟩
theorem strs_vals : ∀ {ss : List Str} {its : List Value}, Vals (ss.map V.str) its → StrsAre its ss
  | [], _, h => by cases h; exact .nil
  | x :: ss, _, h => by
    cases h with
    | cons a b =>
      obtain ⟨t, rfl⟩ := a
      exact .cons x t (strs_vals b)
theorem vals_strs : ∀ {ss : List Str} {its : List Value}, StrsAre its ss → Vals (ss.map V.str) its
  | _, _, .nil => .nil
  | _, _, .cons x t h => .cons ⟨t, rfl⟩ (vals_strs h)
def rSetS (P : Program) (w : World) (K : Frag) : List V → Hp → VK → Prop := fun xs H Q => ∃ (a : Addr) (ss : List Str), xs = [.ref a] ∧ SqL K H a (ss.map V.str) ∧ ss.length < 4000 ∧ ∀ l, H l = none → Q (.ref l) (upd H l (.ext fun h => SetS P w h l (ss.foldl stepS [])))
theorem call_setS (hc : X.calm = true) : CallR X (.type "set") (rSetS X.prog X.w X.K) := by
  intro pins s σ H xs us Q I r h
  obtain ⟨a, ss, rfl, hq, hl, q⟩ := h
  obtain ⟨u, rfl, rx⟩ := vals1 r
  cases rx
  obtain ⟨its, r', pl, hz⟩ := I.list hq
  have hlen : its.length = ss.length := by have := r'.length; rw [List.length_map] at this; exact this.symm
  refine call_setS_list (I.ok.hd hc) pl.isList (ns := ss) (strs_vals r') (by rw [List.size_toArray, hlen]; unfold scanBound; omega) fun h' tk hS k => ?_
  refine ⟨.ref s.heap.objs.size, _, I.laid (t' := tk) k (Nat.le_refl _) (show ObjOk X.prog X.w _ h' _ (.ext _) from ⟨hS, ?_, fun h1 h2 q1 q2 => SetS.at q1 q2⟩), rfl, q _ (I.hok.fresh (Nat.le_refl _))⟩
  obtain ⟨o, _, _, _, x⟩ := hS
  exact ⟨o, x.1⟩
def rSortS (P : Program) (w : World) : List V → Hp → VK → Prop := fun xs H Q => ∃ (a : Addr) (ss : List Str), xs = [.ref a] ∧ H a = some (.ext fun h => SetS P w h a ss) ∧ ss ≠ [] ∧ ss.length < 64 ∧ ∀ l ss', ss'.Perm ss → sortedS ss' = true → H l = none → Q (.ref l) (upd H l (.lst (ss'.map V.str)))
theorem call_sortS (hc : X.calm = true) : CallR X (.builtin "sorted") (rSortS X.prog X.w) := by
  intro pins s σ H xs us Q I r h
  obtain ⟨a, ss, rfl, ha, hne, h64, q⟩ := h
  obtain ⟨u, rfl, rx⟩ := vals1 r
  cases rx
  have hS : SetS X.prog X.w s.heap a ss := (I.hok a _ ha).1
  refine sorted_set (I.ok.hd hc) hS hne h64 fun s' D c out ss' k eg eo hD hDo hos hp hs => ?_
  obtain ⟨h', g', d', tk', os'⟩ := s'
  change g' = s.gens at eg
  change os' = s.os at eo
  subst eg; subst eo
  have hol : (ss'.map V.str).length ≤ sizeLine := by rw [List.length_map, hp.length_eq, sizeLine_eq]; omega
  exact ⟨.ref D, _, (I.laid (t' := tk') k hD (show ObjOk X.prog X.w _ h' _ (.lst (ss'.map V.str)) from ⟨hol, out, c, vals_strs hos, hDo⟩)).drew, rfl, q _ _ hp hs (I.hok.fresh hD)⟩
def strsT : List D → Option (List (List Nat))
  | [] => some []
  | .str l :: ds => (strsT ds).map (l :: ·)
  | _ => none
def gRise (d : D) : Option D := match d with
  | .lst ds => match strsT ds with
    | some l => if l.length < 4000 ∧ l ≠ [] ∧ (l.foldl stepT []).length < 64 then some (.lst ((riseT l).map .str)) else none
    | none => none
  | _ => none
def gRiseL : List D → Option D
  | [d] => gRise d
  | _ => none
theorem Rps.strsT {K : Frag} {F : Hp} {as : List Addr} : ∀ {ds : List D} {xs : List V} {l : List (List Nat)}, Rps K F as xs ds → L2.strsT ds = some l → xs = (l.map S).map V.str
  | [], xs, l, h, e => by cases e; exact h
  | d :: ds, xs, l, h, e => by
    obtain ⟨x, xr, rfl, h3, h4⟩ := h.un
    cases d with
    | str t =>
      unfold L2.strsT at e
      cases q : L2.strsT ds with
      | none => rw [q] at e; cases e
      | some l' =>
        rw [q] at e
        cases e
        rw [Rps.strsT h4 q]
        show x :: _ = _
        rw [show x = V.str (S t) from h3]
        rfl
    | _ => cases e
theorem Rps.ofStrs {K : Frag} {F : Hp} {as : List Addr} : ∀ l : List (List Nat), Rps K F as ((l.map S).map V.str) (l.map D.str)
  | [] => Rps.nil
  | x :: l => Rps.cons (show Rp K F as (V.str (S x)) (.str x) from rfl) (Rps.ofStrs l)
variable {md : List Md} {P : Pt}
theorem oe_rise {e : Expr} {p1 q1 p2 q2 : Pos} {ms : List Md} {ma : M (List D)} (hc : X.calm = true) (hm1 : X.mg "sorted" = none) (hm2 : X.mg "set" = none) (ha : AE X md P ms [e] ma) (hg1 : Gl X "sorted" := by rfl) (hg2 : Gl X "set" := by rfl)
    (he : starEach [e] X.env = (false, eval e X.env) :: starEach [] X.env := by exact starC rfl) (hpl : (backTo q2 (starEach [] X.env)).any (·.1) = false := by exact starAny rfl)
    (he' : starEach [Expr.Call (.Name "set" p2) [e] [] q2] X.env = (false, eval (Expr.Call (.Name "set" p2) [e] [] q2) X.env) :: starEach [] X.env := by exact starC rfl) (hpl' : (backTo q1 (starEach [] X.env)).any (·.1) = false := by exact starAny rfl) :
    OE X md P (.Call (.Name "sorted" p1) [.Call (.Name "set" p2) [e] [] q2] [] q1) (mCallB gRiseL ma) := by
  have hin : PE X (.Call (.Name "set" p2) [e] [] q2) _ := pe_callTy (call_setS hc) hg2 hm2 (by decide +kernel) ha (by decide) (by decide) he hpl
  refine (pe_callB (call_sortS hc) hg1 hm1 (by decide +kernel) (pa_cons hin pa_nil he') (by decide) (by decide) he' hpl').imp fun σ H Q q => ?_
  obtain ⟨ρ, O, F, as, d, O', r, s, e, k⟩ := q
  obtain ⟨ds, O1, e1, e⟩ := Res.bind_ok e
  split at e
  · rename_i y hg
    cases e
    refine ⟨ρ, _, F, as, _, _, r, s, e1, fun vs H1 F1 as1 g1 r1 hv => ?_⟩
    have hvs := hv.lks r1
    generalize hds : ds.map (deref O') = es at hg hvs
    unfold gRiseL at hg
    split at hg
    · rename_i d0
      obtain ⟨v, rfl, hv0⟩ := hvs.one
      unfold gRise at hg
      split at hg
      · rename_i ds0
        split at hg
        · rename_i l hl
          split at hg
          · rename_i hcond
            cases hg
            obtain ⟨p, xs, rfl, h1, h2⟩ := hv0.list r1.fh
            have hxs := Rps.strsT h2 hl
            subst hxs
            refine ⟨p, l.map S, rfl, h1.sq, by rw [List.length_map]; exact hcond.1, fun a hA => ?_⟩
            have hne : (l.map S).foldl stepS [] ≠ [] := fun z => by
              have e2 := foldS_map l []
              rw [List.map_nil, z] at e2
              cases hq : l.foldl stepT [] with
              | nil =>
                cases l with
                | nil => exact hcond.2.1 rfl
                | cons x l' =>
                  have := (foldT_mem x (x :: l') []).mpr (.inr List.mem_cons_self)
                  rw [hq] at this
                  cases this
              | cons x l' => rw [hq] at e2; cases e2
            refine ⟨a, _, rfl, upd_same, hne, ?_, fun b ss' hp hs hB => ?_⟩
            · have e2 := foldS_map l []
              rw [List.map_nil] at e2
              rw [e2, List.length_map]
              exact hcond.2.2
            · rw [rise_of hp hs]
              refine k_lst (r1.lay hA) (fun v' H' F' g' r' hw => k v' H' F' as1 (g1.trans ((Gr.lay hA).trans g')) r' (rO_ok _ _ _ _ _ _ _ (fun c hc => ?_) hw)) hB (Rps.ofStrs _)
              refine g1.dm c ?_
              rcases Decidable.em (c = a) with z | z
              · rw [z]; exact hA
              · rwa [upd_ne z] at hc
          · cases hg
        · cases hg
      · cases hg
    · cases hg
  · cases e
end
structure Blt4 (mg : Str → Option Value) : Prop extends Blt2 mg where
  set_ : mg "set" = none
end L2
namespace L2
open PySem PySem.Spec PyProof.Rows PySem.W PySem.Calls
def lt2 (a1 a2 b1 b2 : Str) : Bool := if a1 = b1 then decide (a2.cps.toList < b2.cps.toList) else decide (a1.cps.toList < b1.cps.toList)
theorem tup2_lt (l b : Addr) {a1 a2 b1 b2 : Str} {t1 t2 u1 u2 : Tok} (n n2 : Nat) (dd dd2 : Option Addr) (sl sl2 : Array (Option Value)) :
    Meets (Builtin.«tuple.__lt__» ⟨[.ref l, .ref b], []⟩)
      (fun A R s => s.heap.get? l = some { cls := .type "tuple", dict := dd, data := .seq #[.str a1 t1, .str a2 t2] n, slots := sl } ∧ s.heap.get? b = some { cls := .type "tuple", dict := dd2, data := .seq #[.str b1 u1, .str b2 u2] n2, slots := sl2 } ∧
        R (.ok (.ret (.bool (lt2 a1 a2 b1 b2)))) s) :=
  .of_wp fun prog w A R s h => by
    obtain ⟨hp, g, d, tk, os⟩ := s; obtain ⟨hl, hb, h⟩ := h
    have f2 := AutoSeq1.sub_tuple_tuple
    generalize hEB : eqBool = EB
    wp_walk using wpAny_loadPart' hl, wpAny_loadPart' hb
    subst hEB
    refine wpAny_eqBool_str ?_
    refine wpAny_ite_split (fun hc => ?_) (fun hc => ?_)
    · have e1 : a1 ≠ b1 := by simpa using hc
      refine wpAny_bind (wpAny_rule ?_)
      refine wpAny_bind (show wpAny _ _ (compareOp .Lt (.str a1 t1) (.str b1 u1)) _ _ _ from lt_str ?_)
      refine wpAny_bind (wpAny_pure ?_)
      refine wpAny_pure (wpAny_pure (wpAny_pure ⟨_, rfl, ?_⟩))
      rw [lt2, if_neg e1] at h
      exact h
    · have e1 : a1 = b1 := by simpa using hc
      refine wpAny_pure ?_
      show wpAny _ _ (List.forIn'.loop _ _ [(Value.str a2 t2, Value.str b2 u2)] _ _) _ _ _
      refine wpAny_bind (wpAny_bind (wpAny_eqBool_str ?_))
      refine wpAny_ite_split (fun hc2 => ?_) (fun hc2 => ?_)
      · refine wpAny_bind (wpAny_rule ?_)
        refine wpAny_bind (show wpAny _ _ (compareOp .Lt (.str a2 t2) (.str b2 u2)) _ _ _ from lt_str ?_)
        refine wpAny_bind (wpAny_pure ?_)
        refine wpAny_pure (wpAny_pure (wpAny_pure ⟨_, rfl, ?_⟩))
        rw [lt2, if_pos e1] at h
        exact h
      · have e2 : a2 = b2 := by simpa using hc2
        refine wpAny_pure ?_
        show wpAny _ _ (List.forIn'.loop _ _ [] _ _) _ _ _
        refine wpAny_pure (wpAny_pure ⟨_, rfl, ?_⟩)
        rw [lt2, if_pos e1, e2] at h
        have : decide (b2.cps.toList < b2.cps.toList) = false := by simpa using List.lt_irrefl b2.cps.toList
        rw [this] at h
        exact h
def eqE : D → D → Option Bool
  | .int i, .int j => some (decide (i = j))
  | .str a, .str b => some (decide (a = b))
  | .tup [.str a1, .str a2], .tup [.str b1, .str b2] => some (decide (a1 = b1) && decide (a2 = b2))
  | .tup [.int i, .tup [.str a1, .str a2]], .tup [.int j, .tup [.str b1, .str b2]] => some (decide (i = j) && (decide (a1 = b1) && decide (a2 = b2)))
  | _, _ => none
def ltE : D → D → Option Bool
  | .int i, .int j => some (decide (i < j))
  | .str a, .str b => some (decide (a < b))
  | .tup [.str a1, .str a2], .tup [.str b1, .str b2] => some (if a1 = b1 then decide (a2 < b2) else decide (a1 < b1))
  | _, _ => none
def ltN : List D → List D → Option Bool
  | [], [] => some false
  | x :: xs, y :: ys => match eqE x y with
    | some true => ltN xs ys
    | some false => ltE x y
    | none => none
  | _, _ => none
section
variable {prog : Program} {w : World} {A : Around} {E : Value → Shared → Prop} {s : Shared} {K : Frag} {H F : Hp} {as : List Addr}
def TupAt (K : Frag) (H : Hp) (h : Heap) : Prop := ∀ b zs, SqT K H b zs → ∃ (o : Obj) (ws : List Value) (n : Nat), Vals zs ws ∧ h.get? b = some o ∧ o.cls = .type "tuple" ∧ o.data = .seq ws.toArray n
theorem pair_at (tp : TupAt K H s.heap) (fh : Same F H) {v : V} {u : Value} {a1 a2 : List Nat} (h : Rp K F as v (.tup [.str a1, .str a2])) (hv : RelV v u) :
    ∃ x o t1 t2 n, u = .ref x ∧ s.heap.get? x = some o ∧ o.cls = .type "tuple" ∧ o.data = .seq #[.str (S a1) t1, .str (S a2) t2] n := by
  obtain ⟨b, ws, rfl, q1, q2⟩ := h.unT
  cases (show u = Value.ref b from hv)
  obtain ⟨x1, r1, rfl, h1, q3⟩ := q2.un
  obtain ⟨x2, r2, rfl, h2, q4⟩ := q3.un
  cases (show r2 = [] from q4)
  cases (show x1 = V.str (S a1) from h1)
  cases (show x2 = V.str (S a2) from h2)
  obtain ⟨o, us, n, w1, w2, w3, w4⟩ := tp b _ (Same.seqT fh q1)
  cases w1 with
  | cons c1 w1 =>
    cases w1 with
    | cons c2 w1 =>
      cases w1
      obtain ⟨t1, rfl⟩ := c1
      obtain ⟨t2, rfl⟩ := c2
      exact ⟨b, o, t1, t2, n, rfl, w2, w3, w4⟩
theorem S_eq (a b : List Nat) : (S a = S b) ↔ a = b := ⟨S_inj, fun h => by rw [h]⟩
theorem and3 (a b : Bool) : (a && (b && true) && true) = (a && b) := by rw [Bool.and_true, Bool.and_true]
theorem pair_eq {A : Around} (hu : A.units + 5 < cLine) {x y : Addr} {o o' : Obj} {a1 a2 b1 b2 : List Nat} {t1 t2 u1 u2 : Tok} {n m : Nat} (x1 : s.heap.get? x = some o) (x2 : o.cls = .type "tuple") (x3 : o.data = .seq #[.str (S a1) t1, .str (S a2) t2] n)
    (y1 : s.heap.get? y = some o') (y2 : o'.cls = .type "tuple") (y3 : o'.data = .seq #[.str (S b1) u1, .str (S b2) u2] m) : SeqAt.EqAt A s (.ref x) (.ref y) (decide (a1 = b1) && decide (a2 = b2)) := by
  by_cases hxy : x = y
  · subst hxy
    rw [x1] at y1
    cases y1
    rw [x3] at y3
    injection y3 with y3 _
    injection y3 with y3
    injection y3 with y4 y5
    injection y5 with y5 _
    injection y4 with y4 _
    injection y5 with y5 _
    rw [S_inj y4, S_inj y5, decide_eq_true rfl, decide_eq_true rfl]
    exact SeqAt.EqAt.same _
  · have hs : ∀ (c d : List Nat) (t u : Tok), SeqAt.EqAt A.in1 s (.str (S c) t) (.str (S d) u) (decide (c = d)) := fun c d t u prog w E Q h =>
      wpAny_eqBool_str (by rw [show decide (S c = S d) = decide (c = d) from decide_eq_decide.mpr (S_eq c d)]; exact h)
    rw [← and3]
    refine SeqAt.EqAt.of_refs hxy (SeqAt.RcAt.tuples (e := fun j => if j = 0 then decide (a1 = b1) else decide (a2 = b2)) ⟨_, x1, x2, n, x3⟩ ⟨_, y1, y2, m, y3⟩ (by omega) fun j j1 j2 => ?_)
    match j, j1 with
    | 0, _ => exact hs _ _ _ _
    | 1, _ => exact hs _ _ _ _
theorem node_eq {A : Around} (hu : A.units + 5 < cLine) {x y c d : Addr} {o o' p p' : Obj} {i j : Int} {ti tj : Tok} {n m : Nat} {e : Bool} (x1 : s.heap.get? x = some o) (x2 : o.cls = .type "tuple") (x3 : o.data = .seq #[.int i ti, .ref c] n)
    (y1 : s.heap.get? y = some o') (y2 : o'.cls = .type "tuple") (y3 : o'.data = .seq #[.int j tj, .ref d] m) (he : SeqAt.EqAt A.in1 s (.ref c) (.ref d) e) (hs : c = d → e = true) : SeqAt.EqAt A s (.ref x) (.ref y) (decide (i = j) && e) := by
  by_cases hxy : x = y
  · subst hxy
    rw [x1] at y1
    cases y1
    rw [x3] at y3
    injection y3 with y3 _
    injection y3 with y3
    injection y3 with y4 y5
    injection y5 with y5 _
    injection y4 with y4 _
    injection y5 with y5
    rw [y4, hs y5, decide_eq_true rfl]
    exact SeqAt.EqAt.same _
  · rw [← and3]
    refine SeqAt.EqAt.of_refs hxy (SeqAt.RcAt.tuples (e := fun k => if k = 0 then decide (i = j) else e) ⟨_, x1, x2, n, x3⟩ ⟨_, y1, y2, m, y3⟩ (by omega) fun k j1 j2 => ?_)
    match k, j1 with
    | 0, _ => exact fun prog w E Q h => wpAny_eqBool_int (by rw [Bool.beq_eq_decide_eq]; exact h)
    | 1, _ => exact he
theorem node_at (tp : TupAt K H s.heap) (fh : Same F H) {v : V} {u : Value} {i : Int} {a1 a2 : List Nat} (h : Rp K F as v (.tup [.int i, .tup [.str a1, .str a2]])) (hv : RelV v u) :
    ∃ x o t c p t1 t2 n n', u = .ref x ∧ s.heap.get? x = some o ∧ o.cls = .type "tuple" ∧ o.data = .seq #[.int i t, .ref c] n ∧ s.heap.get? c = some p ∧ p.cls = .type "tuple" ∧ p.data = .seq #[.str (S a1) t1, .str (S a2) t2] n' := by
  obtain ⟨b, ws, rfl, q1, q2⟩ := h.unT
  cases (show u = Value.ref b from hv)
  obtain ⟨x1, r1, rfl, h1, q3⟩ := q2.un
  obtain ⟨x2, r2, rfl, h2, q4⟩ := q3.un
  cases (show r2 = [] from q4)
  cases h1.unI
  obtain ⟨o, us, n, w1, w2, w3, w4⟩ := tp b _ (Same.seqT fh q1)
  cases w1 with
  | cons c1 w1 =>
    cases w1 with
    | cons c2 w1 =>
      cases w1
      obtain ⟨t1, rfl⟩ := c1
      obtain ⟨y, p, e1, e2, n', rfl, z1, z2, z3⟩ := pair_at tp fh h2 c2
      exact ⟨b, o, t1, y, p, e1, e2, n, n', rfl, w2, w3, w4, z1, z2, z3⟩
theorem eqE_wp (tp : TupAt K H s.heap) (fh : Same F H) (hu : A.units + 9 < cLine) {d e : D} {v v' : V} {u u' : Value} {b : Bool} {Q : Bool → Shared → Prop} (h1 : Rp K F as v d) (h2 : Rp K F as v' e) (r1 : RelV v u) (r2 : RelV v' u')
    (he : eqE d e = some b) (hq : Q b s) : wpAny (model prog w) A (eqBool u u') Q E s := by
  unfold eqE at he
  split at he
  · cases he
    rw [h1.unI] at r1
    rw [h2.unI] at r2
    obtain ⟨t1, rfl⟩ := r1
    obtain ⟨t2, rfl⟩ := r2
    exact wpAny_eqBool_int (by rw [Bool.beq_eq_decide_eq]; exact hq)
  · rename_i a b
    cases he
    cases (show v = V.str (S a) from h1)
    cases (show v' = V.str (S b) from h2)
    obtain ⟨t1, rfl⟩ := r1
    obtain ⟨t2, rfl⟩ := r2
    exact wpAny_eqBool_str (by rw [show decide (S a = S b) = decide (a = b) from decide_eq_decide.mpr (S_eq a b)]; exact hq)
  · cases he
    obtain ⟨x, o, t1, t2, n, rfl, x1, x2, x3⟩ := pair_at tp fh h1 r1
    obtain ⟨y, o', u1, u2, m, rfl, y1, y2, y3⟩ := pair_at tp fh h2 r2
    exact pair_eq (by omega) x1 x2 x3 y1 y2 y3 prog w E Q hq
  · rename_i i a1 a2 j b1 b2
    cases he
    obtain ⟨x, o, t, c, p, t1, t2, n, n', rfl, x1, x2, x3, x4, x5, x6⟩ := node_at tp fh h1 r1
    obtain ⟨y, o', t', c', p', u1, u2, m, m', rfl, y1, y2, y3, y4, y5, y6⟩ := node_at tp fh h2 r2
    refine node_eq (p := p) (p' := p') (by omega) x1 x2 x3 y1 y2 y3 (pair_eq (by show A.units + 1 + 5 < cLine; omega) x4 x5 x6 y4 y5 y6) (fun z => ?_) prog w E Q hq
    subst z
    rw [x4] at y4
    cases y4
    rw [x6] at y6
    injection y6 with y6 _
    injection y6 with y6
    injection y6 with z1 z2
    injection z2 with z2 _
    injection z1 with z1 _
    injection z2 with z2 _
    rw [S_inj z1, S_inj z2, decide_eq_true rfl, decide_eq_true rfl]
    rfl
  · cases he
theorem ltE_wp (tp : TupAt K H s.heap) (fh : Same F H) (hu : A.units + 5 < cLine) {d e : D} {v v' : V} {u u' : Value} {b : Bool} {Q : Bool → Shared → Prop} (h1 : Rp K F as v d) (h2 : Rp K F as v' e) (r1 : RelV v u) (r2 : RelV v' u')
    (he : ltE d e = some b) (hq : Q b s) : wpAny (model prog w) A (oneLt' false u u') Q E s := by
  refine kat_one _ _ ?_
  unfold ltE at he
  split at he
  · cases he
    rw [h1.unI] at r1
    rw [h2.unI] at r2
    obtain ⟨t1, rfl⟩ := r1
    obtain ⟨t2, rfl⟩ := r2
    exact lt_int hq
  · rename_i a b
    cases he
    cases (show v = V.str (S a) from h1)
    cases (show v' = V.str (S b) from h2)
    obtain ⟨t1, rfl⟩ := r1
    obtain ⟨t2, rfl⟩ := r2
    refine lt_str ?_
    show Q (decide ((S a).cps.toList < (S b).cps.toList)) s
    rw [S_cps, S_cps]
    exact hq
  · rename_i a1 a2 b1 b2
    cases he
    obtain ⟨x, ⟨c, dd, dt, sl⟩, t1, t2, n, rfl, x1, x2, x3⟩ := pair_at tp fh h1 r1
    obtain ⟨y, ⟨c', dd', dt', sl'⟩, u1, u2, m, rfl, y1, y2, y3⟩ := pair_at tp fh h2 r2
    dsimp only at x2 x3 y2 y3
    subst x2 x3 y2 y3
    refine richCompare_meets_room (op := .Lt) ⟨_, x1, rfl⟩ ⟨_, y1, rfl⟩ PySem.F.slot_tuple_lt PySem.F.entry_tuple_lt (PySem.F.args_tuple_lt_2 _ _) (tup2_lt x y n m dd dd' sl sl') ⟨x1, y1, ⟨(fun z => nomatch z), ?_⟩⟩ (by omega)
    show Q (lt2 (S a1) (S a2) (S b1) (S b2)) s
    unfold lt2
    rw [S_cps, S_cps, S_cps, S_cps]
    by_cases z : a1 = b1
    · rw [if_pos ((S_eq _ _).mpr z)]
      rw [if_pos z] at hq
      exact hq
    · rw [if_neg fun q => z ((S_eq _ _).mp q)]
      rw [if_neg z] at hq
      exact hq
  · cases he
theorem lexN_wp {b fin : Bool} {Q : Bool → Shared → Prop} (tp : TupAt K H s.heap) (fh : Same F H) (hu : A.units + 9 < cLine) (hq : Q b s) : ∀ (ds es : List D) (xs ys : List V) (us ws : List Value) (i : Nat), Rps K F as xs ds → Rps K F as ys es → Vals xs us → Vals ys ws →
    ltN ds es = some b → (i = 0 → ∃ m dr n er, ds = .int m :: dr ∧ es = .int n :: er) → (ds.length = es.length → fin = false) → KatLex prog w A true fin Q (us.zip ws) i s
  | [], [], xs, ys, us, ws, i, h1, h2, r1, r2, he, _, hf => by
    cases he
    rw [hf rfl]
    cases (show xs = [] from h1)
    cases r1
    rw [List.zip_nil_left]
    exact kat_nil hq
  | [], _ :: _, _, _, _, _, _, _, _, _, _, he, _, _ => by cases he
  | _ :: _, [], _, _, _, _, _, _, _, _, _, he, _, _ => by cases he
  | d :: ds, e :: es, xs, ys, us, ws, i, h1, h2, r1, r2, he, h0, hf => by
    obtain ⟨x, xr, rfl, h3, h4⟩ := h1.un
    obtain ⟨y, yr, rfl, h5, h6⟩ := h2.un
    cases r1 with
    | cons c1 r1 =>
      cases r2 with
      | cons c2 r2 =>
        rw [List.zip_cons_cons]
        unfold ltN at he
        split at he
        · rename_i hq1
          refine kat_cons (eqE_wp tp fh hu h3 h5 c1 c2 hq1 ?_)
          exact kat_yes (lexN_wp tp fh hu hq ds es xr yr _ _ (i + 1) h4 h6 r1 r2 he (fun z => nomatch z) fun z => hf (by rw [List.length_cons, List.length_cons, z]))
        · rename_i hq1
          refine kat_cons (eqE_wp tp fh hu h3 h5 c1 c2 hq1 ?_)
          refine kat_no ?_
          cases i with
          | zero =>
            obtain ⟨m, dr, n, er, e1, e2⟩ := h0 rfl
            cases e1
            cases e2
            cases he
            rw [h3.unI] at c1
            rw [h5.unI] at c2
            obtain ⟨t1, rfl⟩ := c1
            obtain ⟨t2, rfl⟩ := c2
            exact oneLt_int hq
          | succ i => exact ltE_wp tp fh (by omega) h3 h5 c1 c2 he hq
        · cases he
end
section
variable {X : Cx}
def cmpN (ds : List D) (i j : Nat) : Option Bool := match ds[i]?, ds[j]? with
  | some (.tup xs), some (.tup ys) => ltN xs ys
  | _, _ => none
def gSortN : List D → Option D
  | [.lst ds] => if ds.length < 2 then some (.lst ds) else
    if ds.length < 64 ∧ ds.all isTI = true then (kasO (cmpN ds) (kas_sort ds.length)).map fun p => .lst (p.toList.map fun i => ds.getD i .non) else none
  | _ => none
theorem cd_sortN {k : Nat} (hr : Room k X.A) : CallD X (.builtin "sorted") gSortN := by
  intro pins s σ H xs us Q I rs h
  obtain ⟨O, F, as, ds, d, r, hvs, e, k⟩ := h
  unfold gSortN at e
  split at e
  · rename_i es
    obtain ⟨v, rfl, hv⟩ := hvs.one
    obtain ⟨p, xs, rfl, h1, h2⟩ := hv.list r.fh
    have hl := h2.length
    obtain ⟨u, rfl, rx⟩ := vals1 rs
    cases rx
    obtain ⟨its, r', pl, hz⟩ := I.list h1.sq
    have hlen := r'.length
    split at e
    · rename_i hlt
      cases e
      refine srt_call (p := #[]) (out := its) pl.isList (by omega) (fun h2' => by omega) (fun _ => rfl) (fun z => by omega) fun D h' c hD kp el e => ?_
      exact ⟨.ref D, _, I.laid (t' := s.toks) kp hD (show ObjOk X.prog X.w _ h' _ (.lst xs) from ⟨by omega, its, c, r', e⟩), rfl, k_lst r k (I.hok.fresh hD) h2⟩
    · rename_i hlt
      split at e
      · rename_i hc
        cases q : kasO (cmpN es) (kas_sort es.length) with
        | none => rw [q] at e; cases e
        | some pp =>
          rw [q] at e
          cases e
          refine srt_call (p := pp) (out := pp.toList.map fun i => its.getD i Value.none) pl.isList (by omega) (fun h2' h' kp => ?_) (fun z => by omega) (fun _ => rfl) fun D h' c hD kp el e => ?_
          · have tp : TupAt X.K H h' := fun b zs hs => by
              obtain ⟨ws, rw', pl', _⟩ := I.tuple hs
              obtain ⟨o, ho, hc, n, hd⟩ := pl'
              exact ⟨o, ws, n, rw', kp b o ho, hc, hd⟩
            refine ⟨tuples' true, fun Q' E' hq' => ?_, fun G hG => ?_⟩
            · have kt : ∀ (es : List D) (xs : List V) (us : List Value), Rps X.K F as xs es → Vals xs us → es.all isTI = true → ∃ fs : List Value, fs.length = us.length ∧ (∀ f ∈ fs, ∃ i t, f = Value.int i t) ∧ KatTups h' us fs := fun es => by
                induction es with
                | nil =>
                  intro xs us hx hv _
                  cases (show xs = [] from hx)
                  cases hv
                  exact ⟨[], rfl, (fun f hf => nomatch hf), KatTups.nil⟩
                | cons y es ih =>
                  intro xs us hx hv hy
                  obtain ⟨x, xr, rfl, h3, h4⟩ := hx.un
                  rw [List.all_cons, Bool.and_eq_true] at hy
                  cases hv with
                  | cons hv1 hv2 =>
                    obtain ⟨fs, f1, f2, f3⟩ := ih xr _ h4 hv2 hy.2
                    have hy1 := hy.1
                    unfold isTI at hy1
                    split at hy1
                    · rename_i m zs
                      obtain ⟨b, ws, rfl, q1, q2⟩ := h3.unT
                      cases (show _ = Value.ref b from hv1)
                      obtain ⟨x1, xr1, rfl, q3, q4⟩ := q2.un
                      obtain ⟨o, wz, n, w1, w2, w3, w4⟩ := tp b _ (Same.seqT r.fh q1)
                      cases w1 with
                      | cons c1 c2 =>
                        rw [q3.unI] at c1
                        obtain ⟨t, rfl⟩ := c1
                        refine ⟨Value.int m t :: fs, by rw [List.length_cons, List.length_cons, f1], fun f hf => ?_, KatTups.cons w2 w3 w4 rfl f3⟩
                        rcases List.mem_cons.mp hf with rfl | hf
                        · exact ⟨_, _, rfl⟩
                        · exact f2 f hf
                    · cases hy1
              obtain ⟨fs, f1, f2, f3⟩ := kt es xs its h2 r' hc.2
              refine kat_kind (T := .type "int") f3 (by omega) (fun f hf => ?_) rfl hq'
              obtain ⟨i, t, rfl⟩ := f2 f hf
              exact .now
            · rw [show its.length = es.length by omega]
              refine KasR.wp (cmp := fun i j b => cmpN es i j = some b) (fun i j b hb C hC => ?_) hG _ (kasO_R (fun i j b hb => hb) _ q)
              have hu : X.A.in1.in1.units + 9 < cLine := by have := hr.un; show X.A.units + 1 + 1 + 9 < _; omega
              unfold cmpN at hb
              split at hb
              · rename_i x y e1 e2
                obtain ⟨v1, g1, g2⟩ := h2.get' e1
                obtain ⟨v2, g3, g4⟩ := h2.get' e2
                obtain ⟨b1, ws1, rfl, w1, w2⟩ := g2.unT
                obtain ⟨b2, ws2, rfl, w3, w4⟩ := g4.unT
                obtain ⟨u1, z1, z2⟩ := r'.get g1
                obtain ⟨u2, z3, z4⟩ := r'.get g3
                cases (show u1 = Value.ref b1 from z2)
                cases (show u2 = Value.ref b2 from z4)
                obtain ⟨o, vz, n, y1, y2, y3, y4⟩ := tp b1 _ (Same.seqT r.fh w1)
                obtain ⟨o', vz', n', y1', y2', y3', y4'⟩ := tp b2 _ (Same.seqT r.fh w3)
                have t1 := List.all_eq_true.mp hc.2 _ (List.mem_of_getElem? e1)
                have t2 := List.all_eq_true.mp hc.2 _ (List.mem_of_getElem? e2)
                have l1 := w2.length
                have l2 := w4.length
                have l3 := y1.length
                have l4 := y1'.length
                unfold kas_ask
                rw [List.getD_eq_getElem?_getD, List.getD_eq_getElem?_getD, z1, z3]
                refine kat_lt y2 y4 y2' y4' (lexN_wp (s := { s with heap := h' }) tp r.fh hu hC x y ws1 ws2 vz vz' 0 w2 w4 y1 y1' hb (fun _ => ?_) fun z => ?_)
                · unfold isTI at t1 t2
                  split at t1
                  · rename_i hx
                    split at t2
                    · rename_i hy
                      cases hx
                      cases hy
                      exact ⟨_, _, _, _, rfl, rfl⟩
                    · cases t2
                  · cases t1
                · rw [List.size_toArray, List.size_toArray, decide_eq_false_iff_not]
                  omega
              · cases hb
          · have ro : Vals (pp.toList.map fun i => xs.getD i V.non) (pp.toList.map fun i => its.getD i Value.none) := vals_map r' pp.toList
            have hol : (pp.toList.map fun i => xs.getD i V.non).length ≤ sizeLine := by
              have := ro.length
              omega
            exact ⟨.ref D, _, I.laid (t' := s.toks) kp hD (show ObjOk X.prog X.w _ h' _ (.lst _) from ⟨hol, _, c, ro, e⟩), rfl, k_lst r k (I.hok.fresh hD) (h2.mapD pp.toList)⟩
      · cases e
  · cases e
end
end L2
namespace L2
open PySem PySem.Spec PyProof.Rows
section
variable {X : Cx} {md : List Md} {P : Pt} {R : RR}
def msExtO (mo m : M D) : MS := fun ρ O => match mo ρ O with
  | .ok (.ob n) O1 => match O1[n]? with
    | some (.ml _) => match m ρ O1 with
      | .ok d O2 => match O2[n]?, deref O2 d with
        | some (.ml ds), .lst es => if ds.length + es.length ≤ 1000000 then .nx ρ (O2.set n (.ml (ds ++ es))) else .no
        | _, _ => .no
      | _ => .no
    | _ => .no
  | _ => .no
theorem vs_extO {o e : Expr} {apos cpos pos : Pos} {mo m : M D} (ho : VE X md P o mo) (h : SE X md P e m)
    (hbase : attributeBase o "extend" X.env (eval o X.env) = eval o X.env := by rfl)
    (hfew : ((backTo cpos (starEach [e] X.env)).all (fun x => !x.1) && (backToKw cpos (keywordEach [] X.env)).all (fun x => x.1.isSome) && decide ([e].length + ([] : List Keyword).length + (if ([] : List Keyword).isEmpty then 0 else 1) < 30)) = true := by rfl)
    (hline : (apos.endLine == cpos.line) = true := by rfl) (hs : starEach [e] X.env = (false, eval e X.env) :: starEach [] X.env := by exact starC rfl) (hplain : (backTo cpos (starEach [] X.env)).any (·.1) = false := by exact starAny rfl)
    (hsw : swapsWith (.Call (.Attribute o "extend" apos) [e] [] cpos) none pos.line X.env = pure false := by rfl) :
    VS X md P R (.Expr (.Call (.Attribute o "extend" apos) [e] [] cpos) pos) (msExtO mo m) :=
  (ps_expr (pe_bm PySem.F.plainAttrs_list PySem.F.slot_list_extend PySem.F.type_list_extend mt_extR ho (pa_cons h pa_nil hs) hbase hfew hline hs hplain) hsw).imp fun D σ H q => by
    obtain ⟨ρ, O, F, as, r, s, k⟩ := q
    unfold msExtO at k
    split at k
    · rename_i n O1 e1
      split at k
      · rename_i ds0 e2
        split at k
        · rename_i d O2 e3
          split at k
          · rename_i ds es e4 e5
            split at k
            · rename_i hz
              refine ⟨ρ, O, F, as, _, _, r, s, e1, fun v H1 F1 as1 g1 r1 hv => ?_⟩
              obtain ⟨a, rfl, ha⟩ := Rp.unO hv
              obtain ⟨xs0, x1, x2⟩ := r1.ml ha e2
              refine ⟨.inl ⟨rfl, xs0, .inl (.inl x1)⟩, ρ, O1, F1, as1, d, O2, r1, s.step g1, e3, fun y H2 F2 as2 g2 r2 hy => ?_⟩
              have ha2 := g2.at_ n a ha
              obtain ⟨xs, y1, y2⟩ := r2.ml ha2 e4
              have ly := Sv.lk hy r2
              rw [e5] at ly
              obtain ⟨b, zs, rfl, w1, w2⟩ := ly.list r2.fh
              have g3 : Gr H2 F2 as2 (upd H2 a (.lst (xs ++ zs))) F2 as2 := mutO_gr (List.mem_of_getElem? ha2)
              exact ⟨a, b, xs, zs, rfl, rfl, y1, w1, by rw [y2.length, w2.length]; exact size6 hz, k σ _ F2 as2 ((g1.trans g2).trans g3).toS (r2.mutO ha2 (Rps.append w2 y2)) (s.step ((g1.trans g2).trans g3))⟩
            · exact False.elim k
          · exact False.elim k
        · exact False.elim k
      · exact False.elim k
    · exact False.elim k
end
end L2
namespace L2
open PySem PySem.Spec PyProof.Rows
def cloopO (n L : Nat) (g : MG) (t : M Bool) (m : M D) : Nat → DEnv → Store → List D → Res (List D)
  | 0, ρ, O, acc => match O[n]? with
    | some (.ml es) => if es.length = L then .ok acc O else .no
    | _ => .no
  | k + 1, ρ, O, acc => match O[n]? with
    | some (.ml es) => match es[L - (k + 1)]? with
      | some d => match g d ρ with
        | none => .no
        | some ρ1 => match t ρ1 O with
          | .ok true O1 => match m ρ1 O1 with
            | .ok y O2 => cloopO n L g t m k ρ1 O2 (acc ++ [y])
            | _ => .no
          | .ok false O1 => cloopO n L g t m k ρ1 O1 acc
          | _ => .no
      | none => .no
    | _ => .no
def mCompO (m : M D) (own : Nat) (cap : List Nat) (g : MG) (t : M Bool) (e : M D) : M D := fun ρ O => (m ρ O).bind fun d O1 => match d with
  | .ob n => match O1[n]? with
    | some (.ml ds) => if ds.length ≤ 1000000 then (cloopO n ds.length g t e ds.length (cEnv own cap ρ) O1 []).bind fun ys O2 => .ok (.lst ys) O2 else .no
    | _ => .no
  | _ => .no
section
variable {X : Cx} {md : List Md} {P : Pt}
theorem compO_go {K : Frag} {mg : Str → Option Value} {m : M D} {own : List Str} {cap : List Nat} {g : MG} {t : M Bool} {e : M D} (hcap : ∀ j ∈ cap, j < md.length) {σ : St} {H : Hp} {Q : VK} (q : tM K mg md P (rO K) (mCompO m own.length cap g t e) σ H Q) :
    tComp (iList K (tM K mg md P (rV K) m)) own cap (xMG K mg (cMd own.length cap md) g) (xMT K mg (cMd own.length cap md) t) (xM K mg (cMd own.length cap md) (rV K) e) σ H Q := by
  obtain ⟨ρ, O, F, as, d, OZ, r, s, eq, k⟩ := q
  obtain ⟨d1, O1, e1, eq⟩ := Res.bind_ok eq
  split at eq
  · rename_i n
    split at eq
    · rename_i ds e2
      split at eq
      · rename_i hz
        obtain ⟨yf, O2, e3, eq⟩ := Res.bind_ok eq
        cases eq
        refine ⟨ρ, _, F, as, _, _, r, s, e1, fun v H1 F1 as1 g1 r1 hv => ?_⟩
        obtain ⟨a, rfl, ha⟩ := Rp.unO hv
        obtain ⟨xs0, x1, x2⟩ := r1.ml ha e2
        have sb := comp_slots (own := own) (s.step g1) hcap
        refine ⟨a, rfl, ⟨xs0, .inl (.inl x1)⟩, fun i k ys σ' H' => k = ds.length - i ∧ i ≤ ds.length ∧ ∃ ρ' O' F' as' acc, Gr H1 F1 as1 H' F' as' ∧ RlO K mg O' H' F' as' ∧ SlO K (cMd own.length cap md) (Pt.all H1) ρ' σ' H' F' as' ∧ Rps K F' as' ys acc ∧ acc.length ≤ i ∧
          cloopO n ds.length g t e (ds.length - i) ρ' O' acc = .ok yf OZ, ⟨ds.length, by simp, Nat.zero_le _, cEnv own.length cap ρ, O1, F1, as1, [], Gr.refl, r1, sb, Rps.nil, Nat.le_refl _, by rw [Nat.sub_zero]; exact e3⟩, ?_⟩
        rintro i kk ys σ' H' ⟨rfl, hi, ρ', O', F', as', acc, g', r', s', hy, hl, ec⟩
        have ha' := g'.at_ n a ha
        by_cases hlt : i < ds.length
        · rw [show ds.length - i = (ds.length - (i + 1)) + 1 by omega] at ec
          unfold cloopO at ec
          split at ec
          · rename_i es ee
            obtain ⟨xs, y1, y2⟩ := r'.ml ha' ee
            rw [show ds.length - (ds.length - (i + 1) + 1) = i by omega] at ec
            split at ec
            · rename_i d' ed
              obtain ⟨x, hx, rx⟩ := y2.get' ed
              have hsq : SqL K H' a xs := .inl (.inl y1)
              refine .inr ⟨⟨xs, x, hsq, hx⟩, ?_, fun ys σ2 H2 => ∃ ρ2 O3 F2 as2 acc2, Gr H1 F1 as1 H2 F2 as2 ∧ RlO K mg O3 H2 F2 as2 ∧ SlO K (cMd own.length cap md) (Pt.all H1) ρ2 σ2 H2 F2 as2 ∧ Rps K F2 as2 ys acc2 ∧ acc2.length ≤ i + 1 ∧
                cloopO n ds.length g t e (ds.length - (i + 1)) ρ2 O3 acc2 = .ok yf OZ, fun ys2 σ2 H2 h2 => ⟨ds.length - (i + 1), by omega, rfl, hlt, h2⟩, fun x' H3 y => ?_⟩
              · rw [hy.length]
                have := size6 hz
                omega
              obtain ⟨rfl, hyy⟩ := y
              have hxx := hyy xs hsq
              rw [hx] at hxx
              cases hxx
              split at ec
              · cases ec
              · rename_i ρ1 eg
                refine ⟨_, ρ', O', F', as', d', ρ1, r', s', rx, eg, fun σ4 s4 => ?_⟩
                split at ec
                · rename_i O4 et
                  refine ⟨_, ρ1, O', F', as', true, O4, r', s4, et, fun H5 F5 as5 g5 r5 => ?_⟩
                  dsimp only
                  rw [if_pos rfl]
                  split at ec
                  · rename_i yd O6 em
                    refine ⟨_, ρ1, O4, F5, as5, yd, O6, r5, s4.step g5, em, fun vy H7 F7 as7 g7 r7 hvy => ?_⟩
                    exact ⟨ρ1, O6, F7, as7, acc ++ [yd], (g'.trans g5).trans g7, r7, (s4.step g5).step g7, ((hy.gr g5).gr g7).snoc hvy, by rw [List.length_append]; show acc.length + 1 ≤ i + 1; omega, ec⟩
                  · cases ec
                · rename_i O4 et
                  refine ⟨_, ρ1, O', F', as', false, O4, r', s4, et, fun H5 F5 as5 g5 r5 => ?_⟩
                  dsimp only
                  rw [if_neg Bool.false_ne_true]
                  exact ⟨ρ1, O4, F5, as5, acc, g'.trans g5, r5, s4.step g5, hy.gr g5, by omega, ec⟩
                · cases ec
            · cases ec
          · cases ec
        · have hi' : i = ds.length := by omega
          subst hi'
          rw [Nat.sub_self] at ec
          unfold cloopO at ec
          split at ec
          · rename_i es ee
            split at ec
            · rename_i hle
              cases ec
              obtain ⟨xs, y1, y2⟩ := r'.ml ha' ee
              refine .inl ⟨⟨xs, .inl (.inl y1), by rw [y2.length, hle]; exact Nat.le_refl _⟩, ?_, fun p hp => ?_⟩
              · rw [hy.length]
                exact Nat.le_trans hl (size6 hz)
              · have hF : F' p = none := by
                  cases q : F' p with
                  | none => rfl
                  | some o => rw [r'.fh p o q] at hp; cases hp
                exact k _ _ F' as' ((g1.trans g').trans (Gr.lay hp)) (r'.lay hp) (.inr ⟨p, ys, yf, rfl, rfl, upd_same, hF, fun z => r'.all z hp, (g1.trans g').dm p hp, hy⟩)
            · cases ec
          · cases ec
      · cases eq
    · cases eq
  · cases eq
variable {tg iter elt : Expr} {ifs : List Expr} {scope : Scope} {pos : Pos} {mi : M D} {g : MG} {t : M Bool} {e : M D}
theorem oe_compO (sc0 : Scope) (N0 own : List Str) (cap : List Nat) (hc : X.calm = true) (hi : VE X md P iter mi)
    (hg : ∀ C s H ex P, VG (cxComp X scope C (compN N0 own cap) s H ex) (cMd own.length cap md) P tg g) (ht : ∀ C s H ex P, VIf (cxComp X scope C (compN N0 own cap) s H ex) (cMd own.length cap md) P ifs t)
    (he : ∀ C s H ex P, VE (cxComp X scope C (compN N0 own cap) s H ex) (cMd own.length cap md) P elt e)
    (hcap : ∀ j ∈ cap, j < md.length := by decide) (hsc : X.env.scope = sc0 := by rfl) (hN0 : X.N = N0 := by rfl) (ok : compOk sc0 N0 scope own cap = true := by decide +kernel) (hs : ∀ x, foldedSetIterable iter X.env x = pure x := by intro _; rfl) :
    OE X md P (.ListComp elt [⟨tg, iter, ifs, 0⟩] scope pos) (mCompO mi own.length cap g t e) :=
  (pe_comp sc0 N0 own cap hc (pi_list hi) (fun C s H ex => xmg (hg C s H ex)) (fun C s H ex => xmt (ht C s H ex)) (fun C s H ex => xm (he C s H ex)) hsc hN0 ok hs).imp fun _ _ _ q => compO_go hcap q
end
end L2
namespace L2
open PySem PySem.Spec PyProof.Rows PySem.W
section
variable {X : Cx} {md : List Md} {P : Pt} {R : RR}
end
section
variable {X : Cx} {md : List Md} {P : Pt} {R : RR}
end
section
variable {Pr : Program} {w : World} {K : Frag} {mg : Str → Option Value} {base : Heap}
end
end L2
namespace L2
open PySem PySem.Spec PyProof.Rows PySem.W
section
variable {X : Cx} {pins : List (Addr × Obj)} {σ : St} {H : Hp} {s : Shared} {ea : Addr} {oe : Obj}
end
end L2
namespace L2
open PySem PySem.Spec PyProof.Rows PySem.W PySem.Calls PySem.Builtin PySem.Builtin.ObjectAttr PySem.Builtin.Getset_descriptor
section
variable {prog : Program} {w : World} {A : Around} {E : Value → Shared → Prop} {K : Frag} {a C : Addr} {o : Obj} {h : Heap} {g : Array GenState} {d : Drawn} {t : Nat} {os : OsState}
structure ExcF (K : Frag) (C : Addr) : Prop where
  ga : findIn K (.ref C) "__getattribute__" = some (some (.builtin "BaseException.__getattribute__"))
  na : findIn K (.ref C) "__getattr__" = some none
  ca : findIn K (.ref C) "__class__" = some (some (.builtin "object.__class__"))
  sp : specialIn K (.builtin "object.__class__") "__get__" = some (some (.builtin "getset_descriptor.__get__"))
  tk : takesIn K (.builtin "object.__class__") = some true
  ob : mroIn K C (.type "object") = some true
  be : mroIn K C (.type "BaseException") = some true
  cl : (clsIn K C).isSome = true
end
end L2
namespace L2
open PySem PySem.Spec PyProof.Rows PySem.W
section
variable {X : Cx} {ea C : Addr} {oe : Obj}
end
end L2
namespace L2
open PySem PySem.Spec PyProof.Rows PySem.W
section
variable {X : Cx} {md : List Md} {P : Pt} {R : RR}
end
end L2
namespace L2
open PySem PySem.Spec PyProof.Rows PySem.W
section
variable {X : Cx} {ea C : Addr} {oe : Obj} {i : Nat} {b : Bool} {n : Str} {p p1 pos : Pos}
end
end L2
namespace L2
open PySem PySem.Spec PyProof.Rows
section
variable {X : Cx}
variable {md : List Md} {P : Pt}
end
end L2
namespace L2
open PySem PySem.Spec PyProof.Rows PySem.W
section
variable {X : Cx} {md : List Md} {P : Pt} {R : RR}
end
end L2
namespace L2
open PySem PySem.Spec PyProof.Rows
def ofO (o : Option D) (O : Store) : Res D := match o with
  | some d => .ok d O
  | none => .no
@[simp] theorem ofO_some {d : D} {O : Store} : ofO (some d) O = .ok d O := rfl
@[simp] theorem bind_ok' {α β : Type} {a : α} {O : Store} {f : α → Store → Res β} : (Res.ok a O).bind f = f a O := rfl
@[simp] theorem deref_non {O : Store} : deref O .non = .non := rfl
@[simp] theorem deref_bl {O : Store} {b : Bool} : deref O (.bl b) = .bl b := rfl
@[simp] theorem deref_int {O : Store} {b : Int} : deref O (.int b) = .int b := rfl
@[simp] theorem deref_str {O : Store} {b : List Nat} : deref O (.str b) = .str b := rfl
@[simp] theorem deref_lst {O : Store} {b : List D} : deref O (.lst b) = .lst b := rfl
@[simp] theorem deref_tup {O : Store} {b : List D} : deref O (.tup b) = .tup b := rfl
@[simp] theorem deref_dic {O : Store} {a b : List D} : deref O (.dic a b) = .dic a b := rfl
@[simp] theorem m_var {i : Nat} {ρ : DEnv} {O : Store} : mVar i ρ O = (match ρ[i]? with | some (some d) => .ok d O | _ => .no) := rfl
@[simp] theorem m_c {d : D} {ρ : DEnv} {O : Store} : mC d ρ O = .ok d O := rfl
@[simp] theorem m_bin {g : D → D → Option D} {a b : M D} {ρ : DEnv} {O : Store} : mBin g a b ρ O = (a ρ O).bind fun x O1 => (b ρ O1).bind fun y O2 => ofO (g (deref O2 x) (deref O2 y)) O2 := rfl
def gF (r : Res D) : Res D := match r with
  | .ok d O' => if notL d = true then .ok d O' else .no
  | r => r
@[simp] theorem m_g {m : M D} {ρ : DEnv} {O : Store} : mG m ρ O = gF (m ρ O) := rfl
@[simp] theorem gF_int {i : Int} {O : Store} : gF (.ok (.int i) O) = .ok (.int i) O := rfl
@[simp] theorem gF_str {i : List Nat} {O : Store} : gF (.ok (.str i) O) = .ok (.str i) O := rfl
@[simp] theorem gF_bl {i : Bool} {O : Store} : gF (.ok (.bl i) O) = .ok (.bl i) O := rfl
@[simp] theorem gF_non {O : Store} : gF (.ok .non O) = .ok .non O := rfl
@[simp] theorem gF_tup {l : List D} {O : Store} : gF (.ok (.tup l) O) = .ok (.tup l) O := rfl
@[simp] theorem gF_ob {n : Nat} {O : Store} : gF (.ok (.ob n) O) = .ok (.ob n) O := rfl
def chF (o : Option D) (O : Store) (f : Unit → Res D) : Res D := match o with
  | some (.bl true) => f ()
  | some (.bl false) => .ok (.bl false) O
  | _ => .no
@[simp] theorem chF_b {b : Bool} {O : Store} {f : Unit → Res D} : chF (some (.bl b)) O f = if b = true then f () else .ok (.bl false) O := by cases b <;> rfl
@[simp] theorem m_chain {g g' : D → D → Option D} {a b c : M D} {ρ : DEnv} {O : Store} : mChain g g' a b c ρ O = (a ρ O).bind fun x O1 => (b ρ O1).bind fun y O2 => chF (g (deref O2 x) (deref O2 y)) O2 fun _ => (c ρ O2).bind fun z O3 => ofO (g' (deref O3 y) (deref O3 z)) O3 := by
  unfold mChain
  congr 1
@[simp] theorem m_isN {m : M D} {ρ : DEnv} {O : Store} : mIsN m ρ O = (m ρ O).bind fun d O1 => .ok (.bl (isNon d)) O1 := rfl
@[simp] theorem m_notN {m : M D} {ρ : DEnv} {O : Store} : mNotN m ρ O = (m ρ O).bind fun d O1 => .ok (.bl (!isNon d)) O1 := rfl
@[simp] theorem isNon_non : isNon .non = true := rfl
@[simp] theorem isNon_lst {l : List D} : isNon (.lst l) = false := rfl
@[simp] theorem isNon_tup {l : List D} : isNon (.tup l) = false := rfl
@[simp] theorem isNon_str {l : List Nat} : isNon (.str l) = false := rfl
@[simp] theorem isNon_int {l : Int} : isNon (.int l) = false := rfl
@[simp] theorem isNon_ob {l : Nat} : isNon (.ob l) = false := rfl
def teF (d : D) (O : Store) : Res Bool := match d with
  | .bl b => .ok b O
  | _ => .no
@[simp] theorem teF_bl {b : Bool} {O : Store} : teF (.bl b) O = .ok b O := rfl
@[simp] theorem m_test {m : M D} {ρ : DEnv} {O : Store} : mTest m ρ O = (m ρ O).bind teF := rfl
def ofB (o : Option Bool) (O : Store) : Res Bool := match o with
  | some d => .ok d O
  | none => .no
@[simp] theorem ofB_some {d : Bool} {O : Store} : ofB (some d) O = .ok d O := rfl
@[simp] theorem m_tru {m : M D} {ρ : DEnv} {O : Store} : mTru m ρ O = (m ρ O).bind fun d O1 => ofB (truD (deref O1 d)) O1 := rfl
@[simp] theorem truD_bl {b : Bool} : truD (.bl b) = some b := rfl
@[simp] theorem truD_lst {b : List D} : truD (.lst b) = some (!b.isEmpty) := rfl
@[simp] theorem mt_and {a b : M Bool} {ρ : DEnv} {O : Store} : mtAnd a b ρ O = (a ρ O).bind fun c O1 => if c = true then b ρ O1 else .ok false O1 := rfl
@[simp] theorem mt_or {a b : M Bool} {ρ : DEnv} {O : Store} : mtOr a b ρ O = (a ρ O).bind fun c O1 => if c = true then .ok true O1 else b ρ O1 := rfl
@[simp] theorem mt_not {a : M Bool} {ρ : DEnv} {O : Store} : mtNot a ρ O = (a ρ O).bind fun c O1 => .ok (!c) O1 := rfl
def anF (d : D) (O : Store) (f : Unit → Res D) : Res D := match d with
  | .bl true => f ()
  | .bl false => .ok (.bl false) O
  | _ => .no
def orF (d : D) (O : Store) (f : Unit → Res D) : Res D := match d with
  | .bl true => .ok (.bl true) O
  | .bl false => f ()
  | _ => .no
@[simp] theorem anF_b {b : Bool} {O : Store} {f : Unit → Res D} : anF (.bl b) O f = if b = true then f () else .ok (.bl false) O := by cases b <;> rfl
@[simp] theorem orF_b {b : Bool} {O : Store} {f : Unit → Res D} : orF (.bl b) O f = if b = true then .ok (.bl true) O else f () := by cases b <;> rfl
@[simp] theorem m_andV {a b : M D} {ρ : DEnv} {O : Store} : mAndV a b ρ O = (a ρ O).bind fun d O1 => anF d O1 fun _ => b ρ O1 := by
  unfold mAndV
  congr 1
@[simp] theorem m_orV {a b : M D} {ρ : DEnv} {O : Store} : mOrV a b ρ O = (a ρ O).bind fun d O1 => orF d O1 fun _ => b ρ O1 := by
  unfold mOrV
  congr 1
def noF (d : D) (O : Store) : Res D := match d with
  | .bl b => .ok (.bl (!b)) O
  | _ => .no
@[simp] theorem noF_b {b : Bool} {O : Store} : noF (.bl b) O = .ok (.bl (!b)) O := rfl
@[simp] theorem m_notV {a : M D} {ρ : DEnv} {O : Store} : mNotV a ρ O = (a ρ O).bind noF := rfl
@[simp] theorem m_if {t : M Bool} {a b : M D} {ρ : DEnv} {O : Store} : mIf t a b ρ O = (t ρ O).bind fun c O1 => if c = true then a ρ O1 else b ρ O1 := rfl
@[simp] theorem ma_nil {ρ : DEnv} {O : Store} : maNil ρ O = .ok [] O := rfl
@[simp] theorem ma_cons {m : M D} {r : M (List D)} {ρ : DEnv} {O : Store} : maCons m r ρ O = (m ρ O).bind fun d O1 => (r ρ O1).bind fun ds O2 => .ok (d :: ds) O2 := rfl
@[simp] theorem m_lst {r : M (List D)} {ρ : DEnv} {O : Store} : mLst r ρ O = (r ρ O).bind fun ds O1 => if ds.length ≤ 1000000 then .ok (.lst ds) O1 else .no := rfl
@[simp] theorem m_tup {r : M (List D)} {ρ : DEnv} {O : Store} : mTup r ρ O = (r ρ O).bind fun ds O1 => if ds.length ≤ 1000000 then .ok (.tup ds) O1 else .no := rfl
@[simp] theorem m_call {c : List D → Store → Res D} {ma : M (List D)} {ρ : DEnv} {O : Store} : mCall c ma ρ O = (ma ρ O).bind fun ds O1 => c ds O1 := rfl
@[simp] theorem m_callB {g : List D → Option D} {ma : M (List D)} {ρ : DEnv} {O : Store} : mCallB g ma ρ O = (ma ρ O).bind fun ds O1 => ofO (g (ds.map (deref O1))) O1 := rfl
@[simp] theorem m_un {g : D → Option D} {ma : M D} {ρ : DEnv} {O : Store} : mUn g ma ρ O = (ma ρ O).bind fun d O1 => ofO (g (deref O1 d)) O1 := rfl
def isF (n : String) (o : Option String) (O : Store) : Res D := match o with
  | some t => .ok (.bl (isTy t n)) O
  | none => .no
@[simp] theorem isF_some {n t : String} {O : Store} : isF n (some t) O = .ok (.bl (isTy t n)) O := rfl
@[simp] theorem m_isi {n : String} {m : M D} {ρ : DEnv} {O : Store} : mIsi n m ρ O = (m ρ O).bind fun d O1 => isF n (tyD (deref O1 d)) O1 := rfl
@[simp] theorem tyD_non : tyD .non = some "NoneType" := rfl
@[simp] theorem tyD_bl {b : Bool} : tyD (.bl b) = some "bool" := rfl
@[simp] theorem tyD_int {b : Int} : tyD (.int b) = some "int" := rfl
@[simp] theorem tyD_str {b : List Nat} : tyD (.str b) = some "str" := rfl
@[simp] theorem tyD_lst {b : List D} : tyD (.lst b) = some "list" := rfl
@[simp] theorem tyD_tup {b : List D} : tyD (.tup b) = some "tuple" := rfl
@[simp] theorem tyD_dic {a b : List D} : tyD (.dic a b) = some "dict" := rfl
@[simp] theorem mo_n {ρ : DEnv} {O : Store} : moN ρ O = .ok none O := rfl
def osF (d : D) (O : Store) : Res (Option Int) := match d with
  | .int i => .ok (some i) O
  | _ => .no
@[simp] theorem osF_i {i : Int} {O : Store} : osF (.int i) O = .ok (some i) O := rfl
@[simp] theorem mo_s {m : M D} {ρ : DEnv} {O : Store} : moS m ρ O = (m ρ O).bind osF := rfl
@[simp] theorem m_sl {m : M D} {lo hi : M (Option Int)} {ρ : DEnv} {O : Store} : mSl m lo hi ρ O = (m ρ O).bind fun d O1 => (lo ρ O1).bind fun l O2 => (hi ρ O2).bind fun h O3 => ofO (gSl (deref O3 d) l h) O3 := rfl
@[simp] theorem gSl_str {l : List Nat} {lo hi : Option Int} : gSl (.str l) lo hi = if l.length ≤ 16777216 then some (.str (cutN l lo hi)) else none := rfl
@[simp] theorem gSl_lst {l : List D} {lo hi : Option Int} : gSl (.lst l) lo hi = some (.lst (cutN l lo hi)) := rfl
@[simp] theorem gSl_tup {l : List D} {lo hi : Option Int} : gSl (.tup l) lo hi = some (.tup (cutN l lo hi)) := rfl
def seqF (f : Fl) (b : MS) : Fl := match f with
  | .nx ρ' O' => b ρ' O'
  | r => r
@[simp] theorem ms_seq {a b : MS} {ρ : DEnv} {O : Store} : msSeq a b ρ O = seqF (a ρ O) b := rfl
@[simp] theorem seqF_nx {ρ : DEnv} {O : Store} {b : MS} : seqF (.nx ρ O) b = b ρ O := rfl
@[simp] theorem seqF_rt {d : D} {O : Store} {b : MS} : seqF (.rt d O) b = .rt d O := rfl
@[simp] theorem seqF_bk {ρ : DEnv} {O : Store} {b : MS} : seqF (.bk ρ O) b = .bk ρ O := rfl
@[simp] theorem seqF_ct {ρ : DEnv} {O : Store} {b : MS} : seqF (.ct ρ O) b = .ct ρ O := rfl
@[simp] theorem seqF_no {b : MS} : seqF .no b = .no := rfl
@[simp] theorem ms_nil {ρ : DEnv} {O : Store} : msNil ρ O = .nx ρ O := rfl
def retF (r : Res D) : Fl := match r with
  | .ok d O' => .rt d O'
  | .ex x O' => .ex x O'
  | .no => .no
@[simp] theorem ms_ret {m : M D} {ρ : DEnv} {O : Store} : msRet m ρ O = retF (m ρ O) := rfl
@[simp] theorem retF_ok {d : D} {O : Store} : retF (.ok d O) = .rt d O := rfl
def dropF (r : Res D) (ρ : DEnv) : Fl := match r with
  | .ok _ O' => .nx ρ O'
  | .ex x O' => .ex x O'
  | .no => .no
@[simp] theorem ms_drop {m : M D} {ρ : DEnv} {O : Store} : msDrop m ρ O = dropF (m ρ O) ρ := rfl
@[simp] theorem dropF_ok {d : D} {O : Store} {ρ : DEnv} : dropF (.ok d O) ρ = .nx ρ O := rfl
def ifF (r : Res Bool) (a b : MS) (ρ : DEnv) : Fl := match r with
  | .ok c O' => if c = true then a ρ O' else b ρ O'
  | .ex x O' => .ex x O'
  | .no => .no
@[simp] theorem ms_if {t : M Bool} {a b : MS} {ρ : DEnv} {O : Store} : msIf t a b ρ O = ifF (t ρ O) a b ρ := rfl
@[simp] theorem ifF_ok {c : Bool} {O : Store} {a b : MS} {ρ : DEnv} : ifF (.ok c O) a b ρ = if c = true then a ρ O else b ρ O := rfl
def setF (i : Nat) (r : Res D) (ρ : DEnv) : Fl := match r with
  | .ok d O' => .nx (ρ.set i (some d)) O'
  | .ex x O' => .ex x O'
  | .no => .no
@[simp] theorem ms_set {i : Nat} {m : M D} {ρ : DEnv} {O : Store} : msSet i m ρ O = setF i (m ρ O) ρ := rfl
@[simp] theorem setF_ok {i : Nat} {d : D} {O : Store} {ρ : DEnv} : setF i (.ok d O) ρ = .nx (ρ.set i (some d)) O := rfl
def forF (r : Res (List D)) (g : MG) (b : MS) (ρ : DEnv) : Fl := match r with
  | .ok ds O' => floop g b ds ρ O'
  | .ex x O' => .ex x O'
  | .no => .no
@[simp] theorem ms_for {m : M (List D)} {g : MG} {b : MS} {ρ : DEnv} {O : Store} : msFor m g b ρ O = forF (m ρ O) g b ρ := rfl
@[simp] theorem forF_ok {ds : List D} {O : Store} {g : MG} {b : MS} {ρ : DEnv} : forF (.ok ds O) g b ρ = floop g b ds ρ O := rfl
@[simp] theorem mg_n {i : Nat} {d : D} {ρ : DEnv} : mgN i d ρ = some (ρ.set i (some d)) := rfl
def funF (f : Fl) : Res D := match f with
  | .rt d O' => .ok d O'
  | .nx _ O' => .ok .non O'
  | .ex x O' => .ex x O'
  | _ => .no
@[simp] theorem m_fun {n : Nat} {b : MS} {ds : List D} {O : Store} : mFun n b ds O = funF (b (ds.map some ++ List.replicate (n - ds.length) none) O) := rfl
@[simp] theorem funF_rt {d : D} {O : Store} : funF (.rt d O) = .ok d O := rfl
@[simp] theorem funF_nx {ρ : DEnv} {O : Store} : funF (.nx ρ O) = .ok .non O := rfl
@[simp] theorem m_rng1 {m : M (List D)} {ρ : DEnv} {O : Store} : mRng1 m ρ O = (m ρ O).bind fun ds O1 => match ds with
  | [.int j] => if j ≤ 1000000000 ∧ -1000000000 ≤ j then .ok (rangeD 0 j.toNat) O1 else .no
  | _ => .no := rfl
def itF (o : Option (List D)) (O : Store) : Res (List D) := match o with
  | some ds => .ok ds O
  | none => .no
@[simp] theorem itF_some {ds : List D} {O : Store} : itF (some ds) O = .ok ds O := rfl
@[simp] theorem m_iter {m : M D} {ρ : DEnv} {O : Store} : mIter m ρ O = (m ρ O).bind fun d O1 => itF (iterD d) O1 := rfl
@[simp] theorem iterD_lst {ds : List D} : iterD (.lst ds) = some ds := rfl
@[simp] theorem iterD_tup {ds : List D} : iterD (.tup ds) = some ds := rfl
@[simp] theorem m_comp {m : M (List D)} {own : Nat} {cap : List Nat} {g : MG} {t : M Bool} {e : M D} {ρ : DEnv} {O : Store} : mComp m own cap g t e ρ O = (m ρ O).bind fun ds O1 => if ds.length ≤ 1000000 then (cloop g t e ds (cEnv own cap ρ) O1 []).bind fun ys O2 => .ok (.lst ys) O2 else .no := rfl
@[simp] theorem gAdd_i {i j : Int} : gAdd (.int i) (.int j) = some (.int (i + j)) := rfl
@[simp] theorem gAdd_s {a b : List Nat} : gAdd (.str a) (.str b) = if a.length + b.length ≤ 1000000 then some (.str (a ++ b)) else none := rfl
@[simp] theorem gAdd_l {a b : List D} : gAdd (.lst a) (.lst b) = if a.length + b.length ≤ 1000000 then some (.lst (a ++ b)) else none := rfl
@[simp] theorem gMinus_i {i j : Int} : gMinus (.int i) (.int j) = some (.int (i - j)) := rfl
@[simp] theorem gMod_i {i j : Int} : gMod (.int i) (.int j) = if 0 < j then some (.int (i % j)) else none := by
  unfold gMod gI
  by_cases h : 0 < j <;> simp [h]
@[simp] theorem gFdiv_i {i j : Int} : gFdiv (.int i) (.int j) = if 0 < j ∧ j < 1073741824 then some (.int (i / j)) else none := by
  unfold gFdiv gI
  by_cases h : 0 < j ∧ j < 1073741824 <;> simp [h]
theorem gMul_i {i j : Int} (h : (-(2 ^ 64) < i ∧ i < 2 ^ 64) ∨ (-(2 ^ 64) < j ∧ j < 2 ^ 64)) : gMul (.int i) (.int j) = some (.int (i * j)) := by
  unfold gMul
  dsimp only
  rw [if_pos]
  rw [Bool.or_eq_true]
  unfold small64
  rw [Bool.and_eq_true, Bool.and_eq_true, decide_eq_true_eq, decide_eq_true_eq, decide_eq_true_eq, decide_eq_true_eq]
  exact h
@[simp] theorem gLt_i {i j : Int} : gLt (.int i) (.int j) = some (.bl (decide (i < j))) := rfl
@[simp] theorem gGt_i {i j : Int} : gGt (.int i) (.int j) = some (.bl (decide (j < i))) := rfl
@[simp] theorem gGe_i {i j : Int} : gGe (.int i) (.int j) = some (.bl (decide (j ≤ i))) := rfl
@[simp] theorem gLe_i {i j : Int} : gLe (.int i) (.int j) = some (.bl (decide (i ≤ j))) := rfl
theorem one_lt (a b : Nat) : (([a] : List Nat) < [b]) ↔ a < b := by
  constructor
  · intro h
    rcases List.cons_lt_cons_iff.mp h with h | ⟨_, h⟩
    · exact h
    · exact absurd h (List.not_lt_nil _)
  · intro h
    exact List.cons_lt_cons_iff.mpr (.inl h)
@[simp] theorem gLe_1 {a b : Nat} : gLe (.str [a]) (.str [b]) = some (.bl (decide (a ≤ b))) := by
  show some (D.bl (!decide (([b] : List Nat) < [a]))) = _
  have : decide (([b] : List Nat) < [a]) = decide (b < a) := by
    by_cases h : b < a
    · rw [decide_eq_true h, decide_eq_true ((one_lt _ _).mpr h)]
    · rw [decide_eq_false h, decide_eq_false (fun z => h ((one_lt _ _).mp z))]
  rw [this]
  by_cases h : b < a
  · rw [decide_eq_true h, decide_eq_false (by omega)]; rfl
  · rw [decide_eq_false h, decide_eq_true (by omega)]; rfl
@[simp] theorem gEq_i {i j : Int} : gEq (.int i) (.int j) = some (.bl (decide (i = j))) := rfl
@[simp] theorem gEq_s {i j : List Nat} : gEq (.str i) (.str j) = some (.bl (decide (i = j))) := rfl
@[simp] theorem gEq_b {i j : Bool} : gEq (.bl i) (.bl j) = some (.bl (decide (i = j))) := rfl
@[simp] theorem gEq_l {i j : List D} : gEq (.lst i) (.lst j) = if (okE (.lst i) && okE (.lst j)) = true then some (.bl (eqDD (.lst i) (.lst j))) else none := rfl
@[simp] theorem gNe_i {i j : Int} : gNe (.int i) (.int j) = some (.bl (!decide (i = j))) := rfl
@[simp] theorem gNe_s {i j : List Nat} : gNe (.str i) (.str j) = some (.bl (!decide (i = j))) := rfl
@[simp] theorem gNe_b {i j : Bool} : gNe (.bl i) (.bl j) = some (.bl (!decide (i = j))) := rfl
@[simp] theorem gNe_l {i j : List D} : gNe (.lst i) (.lst j) = if (okE (.lst i) && okE (.lst j)) = true then some (.bl (!eqDD (.lst i) (.lst j))) else none := rfl
@[simp] theorem gIn_s {n : Bool} {c : Nat} {l : List Nat} : gIn n (.str [c]) (.str l) = some (.bl (n ^^ decide (c ∈ l))) := rfl
theorem gIx_l {ds : List D} {i : Int} : gIx (.lst ds) (.int i) = atI ds i := rfl
theorem gIx_s {l : List Nat} {i : Int} : gIx (.str l) (.int i) = if l.length ≤ 1000000 then (atI l i).map (fun c => .str [c]) else none := rfl
@[simp] theorem gLen_s {l : List Nat} : gLen [.str l] = if l.length ≤ 1000000 then some (.int l.length) else none := rfl
@[simp] theorem gLen_l {l : List D} : gLen [.lst l] = some (.int l.length) := rfl
@[simp] theorem gLen_t {l : List D} : gLen [.tup l] = some (.int l.length) := rfl
@[simp] theorem gMax_i {i j : Int} : gMax [.int i, .int j] = some (.int (if j > i then j else i)) := rfl
@[simp] theorem gMin_i {i j : Int} : gMin [.int i, .int j] = some (.int (if j < i then j else i)) := rfl
@[simp] theorem gInt_i {i : Int} : gInt [.int i] = some (.int i) := rfl
@[simp] theorem gInt_b {b : Bool} : gInt [.bl b] = some (.int (if b then 1 else 0)) := rfl
@[simp] theorem gPow_c : gPow (.int 10) (.int 18) = some (.int 1000000000000000000) := by rfl
@[simp] theorem gPow_d : gPow (.int 10) (.int 9) = some (.int 1000000000) := by rfl
@[simp] theorem atI_ofNat {α : Type} {xs : List α} {j : Nat} : atI xs (j : Int) = xs[j]? := by
  unfold atI ixN
  rw [if_pos (by omega)]
  by_cases h : j < xs.length
  · rw [if_pos (by omega)]
    simp
  · rw [if_neg (by omega), List.getElem?_eq_none (by omega)]
    rfl
theorem atI_in {α : Type} {xs : List α} {i : Int} (h0 : 0 ≤ i) (h1 : i < xs.length) : ∃ x, atI xs i = some x ∧ x ∈ xs := by
  obtain ⟨j, rfl⟩ := Int.eq_ofNat_of_zero_le h0
  have hj : j < xs.length := by omega
  exact ⟨xs[j], by show atI xs (j : Int) = _; rw [atI_ofNat, List.getElem?_eq_getElem hj], List.getElem_mem hj⟩
section
variable {c : Prop} [Decidable c]
@[simp] theorem funF_ite {a b : Fl} : funF (if c then a else b) = if c then funF a else funF b := by split <;> rfl
@[simp] theorem retF_ite {a b : Res D} : retF (if c then a else b) = if c then retF a else retF b := by split <;> rfl
@[simp] theorem seqF_ite {a b : Fl} {r : MS} : seqF (if c then a else b) r = if c then seqF a r else seqF b r := by split <;> rfl
@[simp] theorem bind_ite {α β : Type} {a b : Res α} {f : α → Store → Res β} : (if c then a else b).bind f = if c then a.bind f else b.bind f := by split <;> rfl
@[simp] theorem ifF_ite {a b : Res Bool} {x y : MS} {ρ : DEnv} : ifF (if c then a else b) x y ρ = if c then ifF a x y ρ else ifF b x y ρ := by split <;> rfl
@[simp] theorem setF_ite {a b : Res D} {i : Nat} {ρ : DEnv} : setF i (if c then a else b) ρ = if c then setF i a ρ else setF i b ρ := by split <;> rfl
@[simp] theorem ofO_ite {a b : Option D} {O : Store} : ofO (if c then a else b) O = if c then ofO a O else ofO b O := by split <;> rfl
end
@[simp] theorem isTy_1 : isTy "str" "str" = true := by decide
@[simp] theorem isTy_2 : isTy "int" "str" = false := by decide
@[simp] theorem isTy_3 : isTy "bool" "str" = false := by decide
@[simp] theorem isTy_4 : isTy "list" "str" = false := by decide
@[simp] theorem isTy_5 : isTy "tuple" "str" = false := by decide
@[simp] theorem isTy_6 : isTy "dict" "str" = false := by decide
@[simp] theorem isTy_7 : isTy "NoneType" "str" = false := by decide
@[simp] theorem isTy_8 : isTy "int" "int" = true := by decide
@[simp] theorem isTy_9 : isTy "int" "bool" = false := by decide
@[simp] theorem isTy_10 : isTy "bool" "bool" = true := by decide
@[simp] theorem isTy_11 : isTy "list" "list" = true := by decide
@[simp] theorem isTy_12 : isTy "tuple" "tuple" = true := by decide
@[simp] theorem isTy_13 : isTy "NoneType" "list" = false := by decide
theorem floop_ind {g : MG} {b : MS} (Pv : Nat → DEnv → Store → Prop) : ∀ (ds : List D) (k : Nat) (ρ : DEnv) (O : Store), Pv k ρ O →
    (∀ i d ρ O, ds[i]? = some d → Pv (k + i) ρ O → ∃ ρ1, g d ρ = some ρ1 ∧ ∃ ρ2 O2, (b ρ1 O = .nx ρ2 O2 ∨ b ρ1 O = .ct ρ2 O2) ∧ Pv (k + i + 1) ρ2 O2) → ∃ ρ' O', floop g b ds ρ O = .nx ρ' O' ∧ Pv (k + ds.length) ρ' O'
  | [], k, ρ, O, h, _ => ⟨ρ, O, rfl, h⟩
  | d :: ds, k, ρ, O, h, hs => by
    obtain ⟨ρ1, e1, ρ2, O2, e2, h2⟩ := hs 0 d ρ O rfl h
    obtain ⟨ρ', O', e3, h3⟩ := floop_ind Pv ds (k + 1) ρ2 O2 h2 fun i d' ρ' O' hi hp => by
      have := hs (i + 1) d' ρ' O' (by simpa using hi) (by rw [show k + (i + 1) = k + 1 + i by omega]; exact hp)
      rw [show k + (i + 1) + 1 = k + 1 + i + 1 by omega] at this
      exact this
    refine ⟨ρ', O', ?_, by rw [List.length_cons, show k + (ds.length + 1) = k + 1 + ds.length by omega]; exact h3⟩
    unfold floop
    rw [e1]
    dsimp only
    rcases e2 with e2 | e2 <;> rw [e2] <;> exact e3
@[simp] theorem mp_nil {ρ : DEnv} {O : Store} : mpNil ρ O = .ok [] O := rfl
@[simp] theorem mp_cons {a b : M D} {r : M (List (D × D))} {ρ : DEnv} {O : Store} : mpCons a b r ρ O = (a ρ O).bind fun x O1 => (b ρ O1).bind fun y O2 => (r ρ O2).bind fun ps O3 => .ok ((x, y) :: ps) O3 := rfl
def diF (o : Option (List Key)) (kv : List (D × D)) (O : Store) : Res D := match o with
  | some ks => if ks.Nodup ∧ kv.length ≤ 15 then .ok (.dic (kv.map (·.1)) (kv.map (·.2))) O else .no
  | none => .no
@[simp] theorem diF_some {ks : List Key} {kv : List (D × D)} {O : Store} : diF (some ks) kv O = if ks.Nodup ∧ kv.length ≤ 15 then .ok (.dic (kv.map (·.1)) (kv.map (·.2))) O else .no := rfl
@[simp] theorem m_disp {m : M (List (D × D))} {ρ : DEnv} {O : Store} : mDisp m ρ O = (m ρ O).bind fun kv O1 => diF (keysOf kv) kv O1 := rfl
@[simp] theorem keyOf_i {i : Int} : keyOf (.int i) = some (.inl i) := rfl
@[simp] theorem keyOf_s {i : List Nat} : keyOf (.str i) = some (.inr (S i)) := rfl
@[simp] theorem keysOf_nil : keysOf [] = some [] := rfl
@[simp] theorem keysOf_cons {a b : D} {r : List (D × D)} : keysOf ((a, b) :: r) = (keyOf a).bind fun k => (keysOf r).map (k :: ·) := rfl
def joF (o : Option (List (List Nat))) (O : Store) : Res D := match o with
  | some ls => if (ls.map List.length).sum ≤ 1000000 then .ok (.str ls.flatten) O else .no
  | none => .no
@[simp] theorem joF_some {ls : List (List Nat)} {O : Store} : joF (some ls) O = if (ls.map List.length).sum ≤ 1000000 then .ok (.str ls.flatten) O else .no := rfl
def jdF (d : D) (O : Store) : Res D := match d with
  | .lst ds => joF (strsD ds) O
  | _ => .no
@[simp] theorem jdF_l {ds : List D} {O : Store} : jdF (.lst ds) O = joF (strsD ds) O := rfl
@[simp] theorem m_join {m : M D} {ρ : DEnv} {O : Store} : mJoin m ρ O = (m ρ O).bind fun d O1 => jdF (deref O1 d) O1 := rfl
@[simp] theorem c_env {own : Nat} {cap : List Nat} {ρ : DEnv} : cEnv own cap ρ = List.replicate own none ++ cap.map fun j => (ρ[j]?).join := rfl
@[simp] theorem cloop_nil {g : MG} {t : M Bool} {m : M D} {ρ : DEnv} {O : Store} {acc : List D} : cloop g t m [] ρ O acc = .ok acc O := rfl
theorem toPs_map : ∀ ds : List D, toPs ds = ds.map toP
  | [] => rfl
  | d :: ds => by rw [toPs, toPs_map ds]; rfl
theorem plainDs_all : ∀ {ds : List D}, (∀ d ∈ ds, plainD d = true) → plainDs ds = true
  | [], _ => rfl
  | d :: ds, h => by rw [plainDs, h d List.mem_cons_self, plainDs_all fun x hx => h x (List.mem_cons_of_mem _ hx)]; rfl
theorem okE_lst {n : Nat} (hn : n < 60) {ds : List D} (h : ∀ d ∈ ds, plainD d = true ∧ (toP d).canLay0 = true ∧ (toP d).depth ≤ n) : okE (.lst ds) = true := by
  unfold okE
  rw [Bool.and_eq_true]
  refine ⟨?_, ?_⟩
  · rw [plainD]; exact plainDs_all fun d hd => (h d hd).1
  · rw [toP, toPs_map]
    refine ok_list hn fun d hd => ?_
    obtain ⟨x, hx, rfl⟩ := List.mem_map.mp hd
    exact (h x hx).2
theorem lay_str {l : List Nat} (h : ∀ c ∈ l, c < 1114112) : (PyData.str (S l)).canLay0 = true := by
  show PyData.strOk (S l) = true
  unfold PyData.strOk S
  simp
  exact h
theorem eqDD_refl {d : D} (h : okE d = true) : eqDD d d = true := by
  unfold okE at h
  rw [Bool.and_eq_true] at h
  have := h.2
  unfold okD at this
  rw [Bool.and_eq_true] at this
  exact SeqAt.eqv_refl _ this.1
end L2
namespace L2
open PySem PySem.Spec PyProof.Rows
def it (f : Int → Int) : Nat → Int → Int
  | 0, x => x
  | n + 1, x => f (it f n x)
def mix (n k : Int) : Int := if n > 1000000000000000000 then it (fun r => r / 1000000000) k.toNat n % 1000000000
  else
    let m := it (fun m => (m * 48271 + 104729) % 2147483629) (k + 2).toNat (n % 2147483647 + 7919)
    m * m % 998244353 / 11
theorem it_lt (j : Nat) (x : Int) (h0 : 0 ≤ x) (h1 : x < 2147491566) : 0 ≤ it (fun m => (m * 48271 + 104729) % 2147483629) j x ∧ it (fun m => (m * 48271 + 104729) % 2147483629) j x < 2147491566 := by
  induction j with
  | zero => exact ⟨h0, h1⟩
  | succ j ih =>
    refine ⟨Int.emod_nonneg _ (by decide), ?_⟩
    have := Int.emod_lt_of_pos (it (fun m => (m * 48271 + 104729) % 2147483629) j x * 48271 + 104729) (show (0 : Int) < 2147483629 by decide)
    show (it (fun m => (m * 48271 + 104729) % 2147483629) j x * 48271 + 104729) % 2147483629 < _
    omega
def B_mix : MS := (msSeq (msIf (mTest (mBin gGt (mVar 0) (mBin gPow (mC (.int 10)) (mC (.int 18))))) (msSeq (msSet 2 (mG (mVar 0)))
    (msSeq (msFor (mRng1 (maCons (mVar 1) maNil)) (mgN 3) (msSet 2 (mBin gFdiv (mVar 2) (mBin gPow (mC (.int 10)) (mC (.int 9))))))
    (msRet (mBin gMod (mVar 2) (mBin gPow (mC (.int 10)) (mC (.int 9))))))) msNil)
    (msSeq (msSet 4 (mBin gAdd (mBin gMod (mVar 0) (mC (.int 2147483647))) (mC (.int 7919))))
    (msSeq (msFor (mRng1 (maCons (mBin gAdd (mVar 1) (mC (.int 2))) maNil)) (mgN 3) (msSet 4 (mBin gMod (mBin gAdd (mBin gMul (mVar 4) (mC (.int 48271))) (mC (.int 104729))) (mC (.int 2147483629)))))
    (msRet (mBin gFdiv (mBin gMod (mBin gMul (mVar 4) (mVar 4)) (mC (.int 998244353))) (mC (.int 11)))))))
theorem rangeD_len (lo : Int) (n : Nat) : (rangeD lo n).length = n := by simp [rangeD]
theorem mix_eq (n k : Int) (h0 : 0 ≤ k) (h1 : k ≤ 1000000) (O : Store) : mFun 5 B_mix [.int n, .int k] O = .ok (.int (mix n k)) O := by
  unfold mix
  by_cases hn : n > 1000000000000000000
  · obtain ⟨ρ', O', e, rfl, o3, rfl⟩ := floop_ind (g := mgN 3) (b := msSet 2 (mBin gFdiv (mVar 2) (mBin gPow (mC (.int 10)) (mC (.int 9)))))
      (fun i ρ O' => O' = O ∧ ∃ o3, ρ = [some (.int n), some (.int k), some (.int (it (fun r => r / 1000000000) i n)), o3, none]) (rangeD 0 k.toNat) 0 [some (.int n), some (.int k), some (.int n), none, none] O ⟨rfl, none, rfl⟩ (by
        rintro i d ρ O' hi ⟨rfl, o3, rfl⟩
        refine ⟨_, rfl, ?_⟩
        simp
        rw [show it (fun r => r / 1000000000) (i + 1) n = it (fun r => r / 1000000000) i n / 1000000000 from rfl]
        exact ⟨_, _, ⟨rfl, rfl⟩, rfl, _, rfl⟩)
    rw [rangeD_len, Nat.zero_add] at e
    have hk : k ≤ 1000000000 ∧ -1000000000 ≤ k := by omega
    simp [B_mix, hn, hk, e]
  · have hm0 : 0 ≤ n % 2147483647 + 7919 := by have := Int.emod_nonneg n (show (2147483647 : Int) ≠ 0 by decide); omega
    have hm1 : n % 2147483647 + 7919 < 2147491566 := by have := Int.emod_lt_of_pos n (show (0 : Int) < 2147483647 by decide); omega
    obtain ⟨ρ', O', e, rfl, o3, rfl⟩ := floop_ind (g := mgN 3) (b := msSet 4 (mBin gMod (mBin gAdd (mBin gMul (mVar 4) (mC (.int 48271))) (mC (.int 104729))) (mC (.int 2147483629))))
      (fun i ρ O' => O' = O ∧ ∃ o3, ρ = [some (.int n), some (.int k), none, o3, some (.int (it (fun m => (m * 48271 + 104729) % 2147483629) i (n % 2147483647 + 7919)))]) (rangeD 0 (k + 2).toNat) 0 [some (.int n), some (.int k), none, none, some (.int (n % 2147483647 + 7919))] O ⟨rfl, none, rfl⟩ (by
        rintro i d ρ O' hi ⟨rfl, o3, rfl⟩
        refine ⟨_, rfl, ?_⟩
        obtain ⟨b0, b1⟩ := it_lt i _ hm0 hm1
        have := gMul_i (i := it (fun m => (m * 48271 + 104729) % 2147483629) i (n % 2147483647 + 7919)) (j := 48271) (.inr ⟨by decide, by decide⟩)
        simp [this]
        rw [show it (fun m => (m * 48271 + 104729) % 2147483629) (i + 1) (n % 2147483647 + 7919) = (it (fun m => (m * 48271 + 104729) % 2147483629) i (n % 2147483647 + 7919) * 48271 + 104729) % 2147483629 from rfl]
        exact ⟨_, _, ⟨rfl, rfl⟩, rfl, _, rfl⟩)
    rw [rangeD_len, Nat.zero_add] at e
    have hk : k + 2 ≤ 1000000000 ∧ -1000000000 ≤ k + 2 := by omega
    obtain ⟨b0, b1⟩ := it_lt (k + 2).toNat _ hm0 hm1
    have hq := gMul_i (i := it (fun m => (m * 48271 + 104729) % 2147483629) (k + 2).toNat (n % 2147483647 + 7919)) (j := it (fun m => (m * 48271 + 104729) % 2147483629) (k + 2).toNat (n % 2147483647 + 7919)) (.inl ⟨by omega, by omega⟩)
    simp [B_mix, hn, hk, e, hq]
end L2
namespace L2
open PySem PySem.Spec PyProof.Rows
def fldF (cs : List Str) (f : Str) (d : D) (O : Store) : Res D := match d with
  | .ob n => match O[n]? with
    | some (.ins c fs) => if c ∈ cs then match fs.lookup f with
      | some y => .ok y O
      | none => .no else .no
    | _ => .no
  | _ => .no
@[simp] theorem m_fld {cs : List Str} {f : Str} {m : M D} {ρ : DEnv} {O : Store} : mFld cs f m ρ O = (m ρ O).bind (fldF cs f) := rfl
def puF (cs : List Str) (f : Str) (d : D) (ρ : DEnv) (r : Res D) : Fl := match r with
  | .ok (.ob n) O2 => match O2[n]? with
    | some (.ins c fs) => if c ∈ cs ∧ fs.length < 900 then .nx ρ (O2.set n (.ins c (putD f d fs))) else .no
    | _ => .no
  | _ => .no
def sfF (cs : List Str) (f : Str) (mo : M D) (r : Res D) (ρ : DEnv) : Fl := match r with
  | .ok d O1 => puF cs f d ρ (mo ρ O1)
  | .ex x O' => .ex x O'
  | .no => .no
@[simp] theorem ms_fld {cs : List Str} {f : Str} {mo mv : M D} {ρ : DEnv} {O : Store} : msFld cs f mo mv ρ O = sfF cs f mo (mv ρ O) ρ := by
  unfold msFld sfF puF
  cases mv ρ O <;> rfl
@[simp] theorem sfF_ok {cs : List Str} {f : Str} {mo : M D} {d : D} {O : Store} {ρ : DEnv} : sfF cs f mo (.ok d O) ρ = puF cs f d ρ (mo ρ O) := rfl
def meF (c m : Str) (cf : List D → Store → Res D) (ma : Store → Res (List D)) (d : D) (O1 : Store) : Res D := match d with
  | .ob n => match O1[n]? with
    | some (.ins c' fs) => if c' = c ∧ (fs.lookup m).isNone = true then (ma O1).bind fun ds O2 => cf (.ob n :: ds) O2 else .no
    | _ => .no
  | _ => .no
@[simp] theorem m_meth {c m : Str} {cf : List D → Store → Res D} {mo : M D} {ma : M (List D)} {ρ : DEnv} {O : Store} : mMeth c m cf mo ma ρ O = (mo ρ O).bind (meF c m cf (ma ρ)) := rfl
def mkF (n : Nat) (r : Res D) : Res D := match r with
  | .ok .non O2 => .ok (.ob n) O2
  | .ok _ _ => .no
  | .ex x O2 => .ex x O2
  | .no => .no
@[simp] theorem m_make {c : Str} {cf : List D → Store → Res D} {ma : M (List D)} {ρ : DEnv} {O : Store} : mMake c cf ma ρ O = (ma ρ O).bind fun ds O1 => mkF O1.length (cf (.ob O1.length :: ds) (O1 ++ [.ins c []])) := by
  unfold mMake
  congr 1
@[simp] theorem mkF_ok {n : Nat} {O : Store} : mkF n (.ok .non O) = .ok (.ob n) O := rfl
def apF (i : Nat) (r : Res D) (ρ : DEnv) : Fl := match r with
  | .ok d O' => match ρ[i]? with
    | some (some (.lst ds)) => if ds.length < 1000000 then .nx (ρ.set i (some (.lst (ds ++ [d])))) O' else .no
    | _ => .no
  | .ex x O' => .ex x O'
  | .no => .no
@[simp] theorem ms_app {i : Nat} {m : M D} {ρ : DEnv} {O : Store} : msApp i m ρ O = apF i (m ρ O) ρ := rfl
theorem apF_ok {i : Nat} {d : D} {ds : List D} {ρ : DEnv} {O : Store} (h : ρ[i]? = some (some (.lst ds))) (hl : ds.length < 1000000) : apF i (.ok d O) ρ = .nx (ρ.set i (some (.lst (ds ++ [d])))) O := by
  unfold apF; dsimp only; rw [h]; dsimp only; rw [if_pos hl]
def exF (i : Nat) (r : Res D) (ρ : DEnv) : Fl := match r with
  | .ok d O' => match ρ[i]?, deref O' d with
    | some (some (.lst ds)), .lst es => if ds.length + es.length ≤ 1000000 then .nx (ρ.set i (some (.lst (ds ++ es)))) O' else .no
    | _, _ => .no
  | .ex x O' => .ex x O'
  | .no => .no
@[simp] theorem ms_ext {i : Nat} {m : M D} {ρ : DEnv} {O : Store} : msExt i m ρ O = exF i (m ρ O) ρ := rfl
def enF (d : D) (O1 : Store) : Res (List D) := match d with
  | .lst ds => .ok (enumD 0 ds) O1
  | .str l => if ascii l = true then .ok (enumD 0 (signsD l)) O1 else .no
  | _ => .no
@[simp] theorem m_enum {m : M D} {ρ : DEnv} {O : Store} : mEnum m ρ O = (m ρ O).bind enF := rfl
def asF (r : Res D) (g : MG) (ρ : DEnv) : Fl := match r with
  | .ok d O' => match g d ρ with
    | some ρ' => .nx ρ' O'
    | none => .no
  | .ex x O' => .ex x O'
  | .no => .no
@[simp] theorem ms_asg {m : M D} {g : MG} {ρ : DEnv} {O : Store} : msAsg m g ρ O = asF (m ρ O) g ρ := rfl
@[simp] theorem mg_2 {i j : Nat} {a b : D} {ρ : DEnv} : mgN' 2 (mgsCons (mgN i) (mgsCons (mgN j) mgsNil)) (.tup [a, b]) ρ = some ((ρ.set i (some a)).set j (some b)) := rfl
def stF (a b : D) (O : Store) : Res D := match a, b with
  | .str l, .str n => .ok (.bl (decide (l.take n.length = n))) O
  | _, _ => .no
@[simp] theorem m_starts {a b : M D} {ρ : DEnv} {O : Store} : mStarts a b ρ O = (a ρ O).bind fun x O1 => (b ρ O1).bind fun y O2 => stF x y O2 := rfl
@[simp] theorem stF_s {l n : List Nat} {O : Store} : stF (.str l) (.str n) O = .ok (.bl (decide (l.take n.length = n))) O := rfl
theorem cloop_mapT {α : Type} {g : MG} {t : M Bool} {m : M D} (Pv : DEnv → Prop) (f h : α → D) : ∀ (xs : List α) (ρ : DEnv) (O : Store) (acc : List D), Pv ρ → (∀ x ∈ xs, ∀ ρ, Pv ρ → ∃ ρ1, g (f x) ρ = some ρ1 ∧ Pv ρ1 ∧ t ρ1 O = .ok true O ∧ m ρ1 O = .ok (h x) O) → cloop g t m (xs.map f) ρ O acc = .ok (acc ++ xs.map h) O
  | [], ρ, O, acc, _, _ => by simp [cloop]
  | x :: xs, ρ, O, acc, hp, hs => by
    obtain ⟨ρ1, e1, h1, e2, e3⟩ := hs x List.mem_cons_self ρ hp
    rw [List.map_cons]
    unfold cloop
    rw [e1]
    dsimp only
    rw [e2]
    dsimp only
    rw [e3]
    dsimp only
    rw [cloop_mapT Pv f h xs ρ1 O _ h1 fun d' hd' => hs d' (List.mem_cons_of_mem _ hd')]
    simp
def kEnd : List Nat := [101, 110, 100]
def kAnew : List Nat := [97, 110, 101, 119]
def kPlain : List Nat := [112, 108, 97, 105, 110]
def kSign : List Nat := [115, 105, 103, 110]
def kInk : List Nat := [105, 110, 107]
def kGround : List Nat := [103, 114, 111, 117, 110, 100]
def item (p : Int) (k v : List Nat) : D := .tup [.int p, .str k, .str v]
def col (c : Nat) : Bool := decide (c ∈ [97, 98, 99, 100, 101, 102, 103, 104, 46])
def oneG (x : Nat) : List Nat → List Nat × List Nat × Nat
  | [] => (kSign, [91], 0)
  | e :: _ => if e = 93 then (kGround, [x], 3) else (kSign, [91], 0)
def oneH : List Nat → List Nat × List Nat × Nat
  | [] => (kSign, [91], 0)
  | x :: t => if col x = true then oneG x t else (kSign, [91], 0)
def oneC (x : Nat) : List Nat → List Nat × List Nat × Nat
  | [] => (kSign, [91], 0)
  | e :: _ => if e = 93 then (kInk, [x], 2) else (kSign, [91], 0)
def oneB : List Nat → List Nat × List Nat × Nat
  | [] => (kSign, [91], 0)
  | d :: t => if d = 93 then (kPlain, [], 1) else if d = 91 then (kSign, [91], 1) else if col d = true then oneC d t else if d = 47 then oneH t else (kSign, [91], 0)
def one (c : Nat) (t : List Nat) : List Nat × List Nat × Nat :=
  if c = 10 then (kEnd, [], 0) else if c = 9 then (kAnew, [], 0) else if c = 91 then oneB t else (kSign, [c], 0)
def items (p : Int) : List Nat → List D
  | [] => []
  | c :: t => item p (one c t).1 (one c t).2.1 :: items (p + ((one c t).2.2 + 1 : Nat)) (t.drop (one c t).2.2)
termination_by l => l.length
decreasing_by
  simp only [List.length_drop, List.length_cons]
  omega
def own (p : Int) (c : Nat) : D := if c = 10 then item p kEnd [] else if c = 9 then item p kAnew [] else item p kSign [c]
def owns : Int → List Nat → List D
  | _, [] => []
  | p, c :: l => own p c :: owns (p + 1) l
def mayB : List Nat → Bool
  | [a] => decide (a = 91)
  | [a, b] => decide (a = 91) && (decide (b = 47) || col b)
  | [a, b, c] => decide (a = 91) && (decide (b = 47) && col c)
  | _ => false
def markB : List Nat → Option (List Nat × List Nat)
  | [a, b] => if a = 91 ∧ b = 93 then some (kPlain, []) else if a = 91 ∧ b = 91 then some (kSign, [91]) else none
  | [a, b, c] => if a = 91 ∧ col b = true ∧ c = 93 then some (kInk, [b]) else none
  | [a, b, c, d] => if a = 91 ∧ b = 47 ∧ col c = true ∧ d = 93 then some (kGround, [c]) else none
  | _ => none
def tk (h : List Nat) (c : Nat) (p : Int) : List D × List Nat :=
  if mayB (h ++ [c]) = true then ([], h ++ [c]) else match markB (h ++ [c]) with
  | some (k, v) => ([item p k v], [])
  | none => if c = 91 then (owns p h, [91]) else (owns p (h ++ [c]), [])
inductive Held : List Nat → Prop where
  | h0 : Held []
  | h1 : Held [91]
  | h2 : Held [91, 47]
  | h3 (x : Nat) (h : col x = true) : Held [91, x]
  | h4 (x : Nat) (h : col x = true) : Held [91, 47, x]
end L2
namespace L2
open PySem PySem.Spec PyProof.Rows
@[simp] theorem gList_l {l : List D} : gList [.lst l] = some (.lst l) := rfl
def fzF (f : Fl) : Fl := match f with
  | .rt d O' => .rt d O'
  | _ => .no
@[simp] theorem ms_fz {m : MS} {ρ : DEnv} {O : Store} : msFz m ρ O = fzF (m ρ O) := rfl
@[simp] theorem fzF_rt {d : D} {O : Store} : fzF (.rt d O) = .rt d O := rfl
def ziF (d e : D) (O : Store) : Res (List D) := match d, e with
  | .lst ds, .lst es => .ok (zipD ds es) O
  | _, _ => .no
@[simp] theorem m_zip {ma mb : M D} {ρ : DEnv} {O : Store} : mZip ma mb ρ O = (ma ρ O).bind fun d O1 => (mb ρ O1).bind fun e O2 => ziF d e O2 := by
  unfold mZip
  congr 1
@[simp] theorem ziF_l {ds es : List D} {O : Store} : ziF (.lst ds) (.lst es) O = .ok (zipD ds es) O := rfl
end L2
namespace K37
open PySem L2
seal VE SE OE WE TsE TwE AE VS VSs VG VGs VI VIc VO VIf DPE
def top (i : Nat) : Stmt := PySem.Challenge.pw_outweave_k37_shade_as_trail.main.body.getD i (.Pass ⟨0, 0, 0, 0⟩)
abbrev s_written : Stmt := top 3
theorem sc_written : FnScope ["kind", "value"] ["kind", "value"] (defScope s_written) := ⟨rfl, rfl, rfl, by decide +kernel, rfl, by decide +kernel, by decide +kernel⟩
def b_written : MS :=
    (msSeq (msIf (mTest (mBin gEq (mVar 0) (mC (.str [115, 105, 103, 110])))) (msRet (mIf (mTest (mBin gEq (mVar 1) (mC (.str [91])))) (mC (.str [91, 91])) (mG (mVar 1)))) msNil)
    (msSeq (msIf (mTest (mBin gEq (mVar 0) (mC (.str [105, 110, 107])))) (msRet (mBin gAdd (mBin gAdd (mC (.str [91])) (mVar 1)) (mC (.str [93])))) msNil)
    (msSeq (msIf (mTest (mBin gEq (mVar 0) (mC (.str [103, 114, 111, 117, 110, 100])))) (msRet (mBin gAdd (mBin gAdd (mC (.str [91, 47])) (mVar 1)) (mC (.str [93])))) msNil)
    (msSeq (msIf (mTest (mBin gEq (mVar 0) (mC (.str [112, 108, 97, 105, 110])))) (msRet (mC (.str [91, 93]))) msNil)
    (msRet (mIf (mTest (mBin gEq (mVar 0) (mC (.str [101, 110, 100])))) (mC (.str [10])) (mC (.str [9]))))))))
def c_written : List D → Store → Res D := mFun 2 b_written
theorem ok_written {Pr : Program} {w : World} {K : Frag} {mg : Str → Option Value} {base : Heap} (D_written : Def K mg "written" s_written)
    (B : Blt4 mg)
    (c_ANEW_SIGN : ∃ u, mg "ANEW_SIGN" = some u ∧ RelV (.str (S [9])) u)
    (c_ROW_END : ∃ u, mg "ROW_END" = some u ∧ RelV (.str (S [10])) u) :
    Can Pr w K mg base "written" ["kind", "value"] 1 (vSp K mg [.s, .s] (rV K) c_written) := by
  refine vdef (k := 0) (b := b_written) D_written sc_written (fun _ _ _ _ _ _ => bndS fun _ => bndS fun _ => bnd0 rfl) [.s, .s] [] rV_ok (fun _ _ _ _ => Rp.non) (body := fun f cdv A outer s H E hr P => ?_)
  refine vss_cons ?_ ?_
  · refine vs_if ?_ ?_ vss_nil
    · refine ts_cmp (od_eq hr) (se_var 0) (se_ve (ve_str [115, 105, 103, 110])) (nomark _)
    · refine vss_one ?_
      · refine vs_retV ?_
        · refine ve_if ?_ (ve_str [91, 91]) (ve_se (se_var 1))
          · refine ts_cmp (od_eq hr) (se_var 1) (se_ve (ve_str [91])) (nomark _)
  · refine vss_cons ?_ ?_
    · refine vs_if ?_ ?_ vss_nil
      · refine ts_cmp (od_eq hr) (se_var 0) (se_ve (ve_str [105, 110, 107])) (nomark _)
      · refine vss_one ?_
        · refine vs_retV ?_
          · refine ve_oe ?_
            · refine oe_bin od_add ?_ (se_ve (ve_str [93]))
              · refine se_oe ?_
                · refine oe_bin od_add (se_ve (ve_str [91])) (se_var 1)
    · refine vss_cons ?_ ?_
      · refine vs_if ?_ ?_ vss_nil
        · refine ts_cmp (od_eq hr) (se_var 0) (se_ve (ve_str [103, 114, 111, 117, 110, 100])) (nomark _)
        · refine vss_one ?_
          · refine vs_retV ?_
            · refine ve_oe ?_
              · refine oe_bin od_add ?_ (se_ve (ve_str [93]))
                · refine se_oe ?_
                  · refine oe_bin od_add (se_ve (ve_str [91, 47])) (se_var 1)
      · refine vss_cons ?_ ?_
        · refine vs_if ?_ ?_ vss_nil
          · refine ts_cmp (od_eq hr) (se_var 0) (se_ve (ve_str [112, 108, 97, 105, 110])) (nomark _)
          · refine vss_one (vs_retV (ve_str [91, 93]))
        · refine vss_one ?_
          · refine vs_retV ?_
            · refine ve_if ?_ ?_ ?_
              · refine ts_cmp (od_eq hr) (se_var 0) (se_ve (ve_str [101, 110, 100])) (nomark _)
              · refine ve_const c_ROW_END (fun _ _ _ => Rp.str)
              · refine ve_const c_ANEW_SIGN (fun _ _ _ => Rp.str)
abbrev s_pair_behind : Stmt := top 6
theorem sc_pair_behind : FnScope ["pair", "kind", "value"] ["pair", "kind", "value"] (defScope s_pair_behind) := ⟨rfl, rfl, rfl, by decide +kernel, rfl, by decide +kernel, by decide +kernel⟩
def b_pair_behind : MS :=
    (msSeq (msIf (mTest (mBin gEq (mVar 1) (mC (.str [105, 110, 107])))) (msRet (mTup (maCons (mG (mVar 2)) (maCons (mBin gIx (mVar 0) (mC (.int 1))) maNil)))) msNil)
    (msSeq (msIf (mTest (mBin gEq (mVar 1) (mC (.str [103, 114, 111, 117, 110, 100])))) (msRet (mTup (maCons (mBin gIx (mVar 0) (mC (.int 0))) (maCons (mG (mVar 2)) maNil)))) msNil)
    (msSeq (msIf (mTest (mBin gEq (mVar 1) (mC (.str [115, 105, 103, 110])))) (msRet (mG (mVar 0))) msNil)
    (msRet (mC (.tup [.str [46], .str [46]]))))))
def c_pair_behind : List D → Store → Res D := mFun 3 b_pair_behind
theorem ok_pair_behind {Pr : Program} {w : World} {K : Frag} {mg : Str → Option Value} {base : Heap} (D_pair_behind : Def K mg "pair_behind" s_pair_behind)
    (B : Blt4 mg)
    (c_PLAIN : CTup K mg "PLAIN" [[46], [46]]) :
    Can Pr w K mg base "pair_behind" ["pair", "kind", "value"] 1 (vSp K mg [.s, .s, .s] (rV K) c_pair_behind) := by
  refine vdef (k := 0) (b := b_pair_behind) D_pair_behind sc_pair_behind (fun _ _ _ _ _ _ => bndS fun _ => bndS fun _ => bndS fun _ => bnd0 rfl) [.s, .s, .s] [] rV_ok (fun _ _ _ _ => Rp.non) (body := fun f cdv A outer s H E hr P => ?_)
  refine vss_cons ?_ ?_
  · refine vs_if ?_ ?_ vss_nil
    · refine ts_cmp (od_eq hr) (se_var 1) (se_ve (ve_str [105, 110, 107])) (nomark _)
    · refine vss_one ?_
      · refine vs_retV ?_
        · refine ve_tup 2 ?_
          · refine ae_v (ve_se (se_var 2)) ?_
            · refine ae_v ?_ ae_nil
              · refine ve_ix (se_var 0) (se_ve ve_int)
  · refine vss_cons ?_ ?_
    · refine vs_if ?_ ?_ vss_nil
      · refine ts_cmp (od_eq hr) (se_var 1) (se_ve (ve_str [103, 114, 111, 117, 110, 100])) (nomark _)
      · refine vss_one ?_
        · refine vs_retV ?_
          · refine ve_tup 2 ?_
            · refine ae_v ?_ ?_
              · refine ve_ix (se_var 0) (se_ve ve_int)
              · refine ae_v (ve_se (se_var 2)) ae_nil
    · refine vss_cons ?_ ?_
      · refine vs_if ?_ ?_ vss_nil
        · refine ts_cmp (od_eq hr) (se_var 1) (se_ve (ve_str [115, 105, 103, 110])) (nomark _)
        · refine vss_one ?_
          · refine vs_retV (ve_se (se_var 0))
      · refine vss_one (vs_retV (ve_ctup (ls := [[46], [46]]) c_PLAIN))
abbrev s_colours_of : Stmt := top 10
theorem sc_colours_of : FnScope ["look", "place"] ["look", "place"] (defScope s_colours_of) := ⟨rfl, rfl, rfl, by decide +kernel, rfl, by decide +kernel, by decide +kernel⟩
def b_colours_of : MS :=
    (msRet (mCallB gRiseL (maCons (mBin gAdd (mLst (maCons (mBin gIx (mC (.tup [.str [46], .str [46]])) (mC (.int 0))) maNil)) (mComp (mIter (mVar 0)) 1 [1] (mgN 0) mYes (mBin gIx (mVar 0) (mVar 1)))) maNil)))
def c_colours_of : List D → Store → Res D := mFun 2 b_colours_of
theorem ok_colours_of {Pr : Program} {w : World} {K : Frag} {mg : Str → Option Value} {base : Heap} (D_colours_of : Def K mg "colours_of" s_colours_of)
    (B : Blt4 mg)
    (c_PLAIN : CTup K mg "PLAIN" [[46], [46]]) :
    Can Pr w K mg base "colours_of" ["look", "place"] 1 (vSp K mg [.s, .s] (rO K) c_colours_of) := by
  refine vdef (k := 0) (b := b_colours_of) D_colours_of sc_colours_of (fun _ _ _ _ _ _ => bndS fun _ => bndS fun _ => bnd0 rfl) [.s, .s] [] rO_ok (fun _ _ _ _ => .inl ⟨rfl, Rp.non⟩) (body := fun f cdv A outer s H E hr P => ?_)
  refine vss_one ?_
  · refine vs_retO ?_
    · refine oe_rise (ms := [.s]) rfl B.sorted_ B.set_ ?_
      · refine ae_s ?_ ae_nil
        · refine se_oe ?_
          · refine oe_bin od_add ?_ ?_
            · refine se_oe ?_
              · refine oe_lst 1 ?_
                · refine ae_v ?_ ae_nil
                  · refine ve_ix (se_ve (ve_ctup (ls := [[46], [46]]) c_PLAIN)) (se_ve ve_int)
            · refine se_oe ?_
              · refine oe_comp (defScope s_colours_of) ["look", "place"] ["letter"] [1] rfl (vic_any (se_var 0)) (fun _ _ _ _ P => ?_) (fun _ _ _ _ P => ?_) (fun _ _ _ _ P => ?_)
                · exact vg_name (i := 0) (show (compN ["look", "place"] ["letter"] [1]).Nodup by decide +kernel) rfl (by first | exact Or.inl rfl | exact Or.inr rfl)
                · exact vif_nil
                · refine ve_ix (se_ve (ve_var 0)) (se_var 1)
abbrev s_shows : Stmt := top 11
theorem sc_shows : FnScope ["pair", "letter"] ["pair", "letter"] (defScope s_shows) := ⟨rfl, rfl, rfl, by decide +kernel, rfl, by decide +kernel, by decide +kernel⟩
def b_shows : MS :=
    (msRet (mAndV (mBin gEq (mBin gIx (mVar 0) (mC (.int 1))) (mBin gIx (mVar 1) (mC (.int 2)))) (mOrV (mBin gEq (mBin gIx (mVar 0) (mC (.int 0))) (mBin gIx (mVar 1) (mC (.int 1)))) (mBin gEq (mBin gIx (mVar 1) (mC (.int 0))) (mC (.str [32]))))))
def c_shows : List D → Store → Res D := mFun 2 b_shows
theorem ok_shows {Pr : Program} {w : World} {K : Frag} {mg : Str → Option Value} {base : Heap} (D_shows : Def K mg "shows" s_shows)
    (B : Blt4 mg) :
    Can Pr w K mg base "shows" ["pair", "letter"] 1 (vSp K mg [.s, .s] (rV K) c_shows) := by
  refine vdef (k := 0) (b := b_shows) D_shows sc_shows (fun _ _ _ _ _ _ => bndS fun _ => bndS fun _ => bnd0 rfl) [.s, .s] [] rV_ok (fun _ _ _ _ => Rp.non) (body := fun f cdv A outer s H E hr P => ?_)
  refine vss_one ?_
  · refine vs_retV ?_
    · refine ve_and ?_ ?_
      · refine ve_oe ?_
        · refine oe_cmp (od_eq hr) ?_ ?_ (nomark _)
          · refine se_ve ?_
            · refine ve_ix (se_var 0) (se_ve ve_int)
          · refine se_ve ?_
            · refine ve_ix (se_var 1) (se_ve ve_int)
      · refine ve_one ?_
        · refine ve_or ?_ ?_
          · refine ve_oe ?_
            · refine oe_cmp (od_eq hr) ?_ ?_ (nomark _)
              · refine se_ve ?_
                · refine ve_ix (se_var 0) (se_ve ve_int)
              · refine se_ve ?_
                · refine ve_ix (se_var 1) (se_ve ve_int)
          · refine ve_one ?_
            · refine ve_oe ?_
              · refine oe_cmp (od_eq hr) ?_ (se_ve (ve_str [32])) (nomark _)
                · refine se_ve ?_
                  · refine ve_ix (se_var 1) (se_ve ve_int)
abbrev s_marks_of : Stmt := top 12
theorem sc_marks_of : FnScope ["inks", "grounds", "marks"] ["inks", "grounds"] (defScope s_marks_of) := ⟨rfl, rfl, rfl, by decide +kernel, rfl, by decide +kernel, by decide +kernel⟩
def b_marks_of : MS :=
    (msSeq (msSet 2 (mBin gAdd (mBin gAdd (mLst (maCons (mTup (maCons (mC (.str [112, 108, 97, 105, 110])) (maCons (mC (.str [])) maNil))) maNil)) (mComp (mIter (mVar 0)) 1 [] (mgN 0) mYes (mTup (maCons (mC (.str [105, 110, 107])) (maCons (mVar 0) maNil))))) (mComp (mIter (mVar 1)) 1 [] (mgN 0) mYes (mTup (maCons (mC (.str [103, 114, 111, 117, 110, 100])) (maCons (mVar 0) maNil))))))
    (msRet (mComp (mIter (mVar 2)) 2 [] (mgN' 2 (mgsCons (mgN 0) (mgsCons (mgN 1) mgsNil))) mYes (mTup (maCons (mCall c_written (maCons (mVar 0) (maCons (mVar 1) maNil))) (maCons (mVar 0) (maCons (mVar 1) maNil)))))))
def c_marks_of : List D → Store → Res D := mFun 3 b_marks_of
theorem ok_marks_of {Pr : Program} {w : World} {K : Frag} {mg : Str → Option Value} {base : Heap} (D_marks_of : Def K mg "marks_of" s_marks_of)
    (B : Blt4 mg)
    (C_written : Can Pr w K mg base "written" ["kind", "value"] 1 (vSp K mg [.s, .s] (rV K) c_written)) :
    Can Pr w K mg base "marks_of" ["inks", "grounds"] 2 (vSp K mg [.s, .s] (rO K) c_marks_of) := by
  refine vdef (k := 1) (b := b_marks_of) D_marks_of sc_marks_of (fun _ _ _ _ _ _ => bndS fun _ => bndS fun _ => bnd0 rfl) [.s, .s] [.v] rO_ok (fun _ _ _ _ => .inl ⟨rfl, Rp.non⟩) (body := fun f cdv A outer s H E hr P => ?_)
  refine vss_cons ?_ ?_
  · refine vs_setV (i := 2) sc_marks_of.nd rfl (by first | exact Or.inl rfl | exact Or.inr rfl) ?_
    · refine ve_oe ?_
      · refine oe_bin od_add ?_ ?_
        · refine se_oe ?_
          · refine oe_bin od_add ?_ ?_
            · refine se_oe ?_
              · refine oe_lst 1 ?_
                · refine ae_v ?_ ae_nil
                  · refine ve_tup 2 ?_
                    · refine ae_v (ve_str [112, 108, 97, 105, 110]) ?_
                      · refine ae_v (ve_str []) ae_nil
            · refine se_oe ?_
              · refine oe_comp (defScope s_marks_of) ["inks", "grounds", "marks"] ["ink"] [] rfl (vic_any (se_var 0)) (fun _ _ _ _ P => ?_) (fun _ _ _ _ P => ?_) (fun _ _ _ _ P => ?_)
                · exact vg_name (i := 0) (show (compN ["inks", "grounds", "marks"] ["ink"] []).Nodup by decide +kernel) rfl (by first | exact Or.inl rfl | exact Or.inr rfl)
                · exact vif_nil
                · refine ve_tup 2 ?_
                  · refine ae_v (ve_str [105, 110, 107]) ?_
                    · refine ae_v (ve_var 0) ae_nil
        · refine se_oe ?_
          · refine oe_comp (defScope s_marks_of) ["inks", "grounds", "marks"] ["ground"] [] rfl (vic_any (se_var 1)) (fun _ _ _ _ P => ?_) (fun _ _ _ _ P => ?_) (fun _ _ _ _ P => ?_)
            · exact vg_name (i := 0) (show (compN ["inks", "grounds", "marks"] ["ground"] []).Nodup by decide +kernel) rfl (by first | exact Or.inl rfl | exact Or.inr rfl)
            · exact vif_nil
            · refine ve_tup 2 ?_
              · refine ae_v (ve_str [103, 114, 111, 117, 110, 100]) ?_
                · refine ae_v (ve_var 0) ae_nil
  · refine vss_one ?_
    · refine vs_retO ?_
      · refine oe_comp (defScope s_marks_of) ["inks", "grounds", "marks"] ["kind", "value"] [] rfl ?_ (fun _ _ _ _ P => ?_) (fun _ _ _ _ P => ?_) (fun _ _ _ _ P => ?_)
        · refine vic_any (se_ve (ve_var 2))
        · refine vg_tup 2 rfl ?_
          · refine vgs_cons (vg_name (i := 0) (show (compN ["inks", "grounds", "marks"] ["kind", "value"] []).Nodup by decide +kernel) rfl (by first | exact Or.inl rfl | exact Or.inr rfl)) ?_
            · refine vgs_cons (vg_name (i := 1) (show (compN ["inks", "grounds", "marks"] ["kind", "value"] []).Nodup by decide +kernel) rfl (by first | exact Or.inl rfl | exact Or.inr rfl)) vgs_nil
        · exact vif_nil
        · refine ve_tup 3 ?_
          · refine ae_v ?_ ?_
            · refine ve_call C_written (hr.mono (by decide)) ?_
              · refine ae_s (se_ve (ve_var 0)) ?_
                · refine ae_s (se_ve (ve_var 1)) ae_nil
            · refine ae_v (ve_var 0) ?_
              · refine ae_v (ve_var 1) ae_nil
abbrev s_Shade___init__ : Stmt := inClass (top 13) 0
theorem sc_Shade___init__ : FnScope ["self", "look", "inks", "grounds", "ink"] ["self", "look"] (defScope s_Shade___init__) := ⟨rfl, rfl, rfl, by decide +kernel, rfl, by decide +kernel, by decide +kernel⟩
def b_Shade___init__ : MS :=
    (msSeq (msFld ["Shade"] "look" (mVar 0) (mCallB gList (maCons (mVar 1) maNil)))
    (msSeq (msSet 2 (mCall c_colours_of (maCons (mVar 1) (maCons (mC (.int 1)) maNil))))
    (msSeq (msSet 3 (mCall c_colours_of (maCons (mVar 1) (maCons (mC (.int 2)) maNil))))
    (msSeq (msFld ["Shade"] "marks" (mVar 0) (mCall c_marks_of (maCons (mVar 2) (maCons (mVar 3) maNil))))
    (msSeq (msFld ["Shade"] "pairs" (mVar 0) (mMl (mLst maNil)))
    (msFor (mIter (mVar 2)) (mgN 4) (msExtO (mFld ["Shade"] "pairs" (mVar 0)) (mComp (mIter (mVar 3)) 1 [4] (mgN 0) mYes (mTup (maCons (mVar 1) (maCons (mVar 0) maNil)))))))))))
def c_Shade___init__ : List D → Store → Res D := mFun 5 b_Shade___init__
theorem ok_Shade___init__ {Pr : Program} {w : World} {K : Frag} {mg : Str → Option Value} {base : Heap} (D_Shade___init__ : DefC K mg "Shade" "Shade.__init__" s_Shade___init__)
    (B : Blt4 mg)
    (K_Shade_look : KC K mg "Shade" "look")
    (K_Shade_marks : KC K mg "Shade" "marks")
    (K_Shade_pairs : KC K mg "Shade" "pairs")
    (C_colours_of : Can Pr w K mg base "colours_of" ["look", "place"] 1 (vSp K mg [.s, .s] (rO K) c_colours_of))
    (C_marks_of : Can Pr w K mg base "marks_of" ["inks", "grounds"] 2 (vSp K mg [.s, .s] (rO K) c_marks_of)) :
    CanC Pr w K mg base "Shade" ["self", "look"] 3 (vSp K mg [.v, .s] (rV K) c_Shade___init__) := by
  refine vdefC (k := 2) (b := b_Shade___init__) D_Shade___init__ sc_Shade___init__ (fun _ _ _ _ _ _ => bndS fun _ => bndS fun _ => bnd0 rfl) [.v, .s] [.v, .v, .v] rV_ok (fun _ _ _ _ => Rp.non) (body := fun f cdv A outer s H E hr P => ?_)
  refine vss_cons ?_ ?_
  · refine vs_fld (kc_cons K_Shade_look kc_nil) (ve_var 0) ?_
    · refine ve_oe ?_
      · refine oe_callT (ms := [.s]) (hv := bt_list) cd_list B.list_ ?_
        · refine ae_s (se_var 1) ae_nil
  · refine vss_cons ?_ ?_
    · refine vs_setV (i := 2) sc_Shade___init__.nd rfl (by first | exact Or.inl rfl | exact Or.inr rfl) ?_
      · refine ve_oe ?_
        · refine oe_call C_colours_of (hr.mono (by decide)) ?_
          · refine ae_s (se_var 1) ?_
            · refine ae_s (se_ve ve_int) ae_nil
    · refine vss_cons ?_ ?_
      · refine vs_setV (i := 3) sc_Shade___init__.nd rfl (by first | exact Or.inl rfl | exact Or.inr rfl) ?_
        · refine ve_oe ?_
          · refine oe_call C_colours_of (hr.mono (by decide)) ?_
            · refine ae_s (se_var 1) ?_
              · refine ae_s (se_ve ve_int) ae_nil
      · refine vss_cons ?_ ?_
        · refine vs_fld (kc_cons K_Shade_marks kc_nil) (ve_var 0) ?_
          · refine ve_oe ?_
            · refine oe_call C_marks_of (hr.mono (by decide)) ?_
              · refine ae_s (se_ve (ve_var 2)) ?_
                · refine ae_s (se_ve (ve_var 3)) ae_nil
        · refine vss_cons ?_ ?_
          · refine vs_fld (kc_cons K_Shade_pairs kc_nil) (ve_var 0) ?_
            · refine ve_ml (oe_lst 0 ae_nil)
          · refine vss_one ?_
            · refine vs_for rfl ?_ (vg_name (i := 4) sc_Shade___init__.nd rfl (by first | exact Or.inl rfl | exact Or.inr rfl)) ?_
              · refine vi_any (we_ve (ve_var 2))
              · refine vss_one ?_
                · refine vs_extO (ve_fld (kc_cons K_Shade_pairs kc_nil) (ve_var 0)) ?_
                  · refine se_oe ?_
                    · refine oe_comp (defScope s_Shade___init__) ["self", "look", "inks", "grounds", "ink"] ["ground"] [4] rfl ?_ (fun _ _ _ _ P => ?_) (fun _ _ _ _ P => ?_) (fun _ _ _ _ P => ?_)
                      · refine vic_any (se_ve (ve_var 3))
                      · exact vg_name (i := 0) (show (compN ["self", "look", "inks", "grounds", "ink"] ["ground"] [4]).Nodup by decide +kernel) rfl (by first | exact Or.inl rfl | exact Or.inr rfl)
                      · exact vif_nil
                      · refine ve_tup 2 ?_
                        · refine ae_v (ve_var 1) ?_
                          · refine ae_v (ve_var 0) ae_nil
abbrev s_Shade_first_node : Stmt := inClass (top 13) 1
theorem sc_Shade_first_node : FnScope ["self"] ["self"] (defScope s_Shade_first_node) := ⟨rfl, rfl, rfl, by decide +kernel, rfl, by decide +kernel, by decide +kernel⟩
def b_Shade_first_node : MS :=
    (msRet (mTup (maCons (mC (.int 0)) (maCons (mC (.tup [.str [46], .str [46]])) maNil))))
def c_Shade_first_node : List D → Store → Res D := mFun 1 b_Shade_first_node
theorem ok_Shade_first_node {Pr : Program} {w : World} {K : Frag} {mg : Str → Option Value} {base : Heap} (D_Shade_first_node : DefM K mg "Shade" "first_node" "Shade.first_node" s_Shade_first_node)
    (B : Blt4 mg)
    (c_PLAIN : CTup K mg "PLAIN" [[46], [46]]) :
    CanM Pr w K mg base "Shade" "first_node" ["self"] 1 (vSp K mg [.v] (rV K) c_Shade_first_node) := by
  refine vdefM (k := 0) (b := b_Shade_first_node) D_Shade_first_node sc_Shade_first_node (fun _ _ _ _ _ _ => bndS fun _ => bnd0 rfl) [.v] [] rV_ok (fun _ _ _ _ => Rp.non) (body := fun f cdv A outer s H E hr P => ?_)
  refine vss_one ?_
  · refine vs_retV ?_
    · refine ve_tup 2 ?_
      · refine ae_v ve_int ?_
        · refine ae_v (ve_ctup (ls := [[46], [46]]) c_PLAIN) ae_nil
abbrev s_Shade_last_at : Stmt := inClass (top 13) 2
theorem sc_Shade_last_at : FnScope ["self"] ["self"] (defScope s_Shade_last_at) := ⟨rfl, rfl, rfl, by decide +kernel, rfl, by decide +kernel, by decide +kernel⟩
def b_Shade_last_at : MS :=
    (msRet (mCallB gLen (maCons (mFld ["Shade"] "look" (mVar 0)) maNil)))
def c_Shade_last_at : List D → Store → Res D := mFun 1 b_Shade_last_at
theorem ok_Shade_last_at {Pr : Program} {w : World} {K : Frag} {mg : Str → Option Value} {base : Heap} (D_Shade_last_at : DefM K mg "Shade" "last_at" "Shade.last_at" s_Shade_last_at)
    (B : Blt4 mg)
    (K_Shade_look : KC K mg "Shade" "look") :
    CanM Pr w K mg base "Shade" "last_at" ["self"] 1 (vSp K mg [.v] (rV K) c_Shade_last_at) := by
  refine vdefM (k := 0) (b := b_Shade_last_at) D_Shade_last_at sc_Shade_last_at (fun _ _ _ _ _ _ => bndS fun _ => bnd0 rfl) [.v] [] rV_ok (fun _ _ _ _ => Rp.non) (body := fun f cdv A outer s H E hr P => ?_)
  refine vss_one ?_
  · refine vs_retV ?_
    · refine ve_oe ?_
      · refine oe_callB (ms := [.s]) (hv := bb_len) cd_len B.len_ ?_
        · refine ae_s ?_ ae_nil
          · refine se_ve (ve_fld (kc_cons K_Shade_look kc_nil) (ve_var 0))
abbrev s_Shade_nodes_at : Stmt := inClass (top 13) 3
theorem sc_Shade_nodes_at : FnScope ["self", "at"] ["self", "at"] (defScope s_Shade_nodes_at) := ⟨rfl, rfl, rfl, by decide +kernel, rfl, by decide +kernel, by decide +kernel⟩
def b_Shade_nodes_at : MS :=
    (msRet (mCompO (mFld ["Shade"] "pairs" (mVar 0)) 1 [1] (mgN 0) mYes (mTup (maCons (mG (mVar 1)) (maCons (mVar 0) maNil)))))
def c_Shade_nodes_at : List D → Store → Res D := mFun 2 b_Shade_nodes_at
theorem ok_Shade_nodes_at {Pr : Program} {w : World} {K : Frag} {mg : Str → Option Value} {base : Heap} (D_Shade_nodes_at : DefM K mg "Shade" "nodes_at" "Shade.nodes_at" s_Shade_nodes_at)
    (B : Blt4 mg)
    (K_Shade_pairs : KC K mg "Shade" "pairs") :
    CanM Pr w K mg base "Shade" "nodes_at" ["self", "at"] 1 (vSp K mg [.v, .s] (rO K) c_Shade_nodes_at) := by
  refine vdefM (k := 0) (b := b_Shade_nodes_at) D_Shade_nodes_at sc_Shade_nodes_at (fun _ _ _ _ _ _ => bndS fun _ => bndS fun _ => bnd0 rfl) [.v, .s] [] rO_ok (fun _ _ _ _ => .inl ⟨rfl, Rp.non⟩) (body := fun f cdv A outer s H E hr P => ?_)
  refine vss_one ?_
  · refine vs_retO ?_
    · refine oe_compO (defScope s_Shade_nodes_at) ["self", "at"] ["pair"] [1] rfl (ve_fld (kc_cons K_Shade_pairs kc_nil) (ve_var 0)) (fun _ _ _ _ P => ?_) (fun _ _ _ _ P => ?_) (fun _ _ _ _ P => ?_)
      · exact vg_name (i := 0) (show (compN ["self", "at"] ["pair"] [1]).Nodup by decide +kernel) rfl (by first | exact Or.inl rfl | exact Or.inr rfl)
      · exact vif_nil
      · refine ve_tup 2 ?_
        · refine ae_v (ve_se (se_var 1)) ?_
          · refine ae_v (ve_var 0) ae_nil
abbrev s_Shade_moves_from : Stmt := inClass (top 13) 4
theorem sc_Shade_moves_from : FnScope ["self", "node", "at", "pair", "moves"] ["self", "node"] (defScope s_Shade_moves_from) := ⟨rfl, rfl, rfl, by decide +kernel, rfl, by decide +kernel, by decide +kernel⟩
def b_Shade_moves_from : MS :=
    (msSeq (msSet 2 (mBin gIx (mVar 1) (mC (.int 0))))
    (msSeq (msSet 3 (mBin gIx (mVar 1) (mC (.int 1))))
    (msSeq (msSet 4 (mComp (mIter (mFld ["Shade"] "marks" (mVar 0))) 3 [2, 3] (mgN' 3 (mgsCons (mgN 0) (mgsCons (mgN 1) (mgsCons (mgN 2) mgsNil)))) mYes (mTup (maCons (mCallB gLen (maCons (mVar 0) maNil)) (maCons (mVar 0) (maCons (mTup (maCons (mVar 3) (maCons (mCall c_pair_behind (maCons (mVar 4) (maCons (mVar 1) (maCons (mVar 2) maNil)))) maNil))) maNil))))))
    (msSeq (msIf (mtAnd (mTest (mBin gLt (mVar 2) (mCallB gLen (maCons (mFld ["Shade"] "look" (mVar 0)) maNil)))) (mTru (mCall c_shows (maCons (mVar 3) (maCons (mBin gIx (mFld ["Shade"] "look" (mVar 0)) (mVar 2)) maNil))))) (msApp 4 (mTup (maCons (mC (.int 0)) (maCons (mCall c_written (maCons (mC (.str [115, 105, 103, 110])) (maCons (mBin gIx (mBin gIx (mFld ["Shade"] "look" (mVar 0)) (mVar 2)) (mC (.int 0))) maNil))) (maCons (mTup (maCons (mBin gAdd (mVar 2) (mC (.int 1))) (maCons (mVar 3) maNil))) maNil))))) msNil)
    (msRet (mVar 4))))))
def c_Shade_moves_from : List D → Store → Res D := mFun 5 b_Shade_moves_from
theorem ok_Shade_moves_from {Pr : Program} {w : World} {K : Frag} {mg : Str → Option Value} {base : Heap} (D_Shade_moves_from : DefM K mg "Shade" "moves_from" "Shade.moves_from" s_Shade_moves_from)
    (B : Blt4 mg)
    (K_Shade_marks : KC K mg "Shade" "marks")
    (K_Shade_look : KC K mg "Shade" "look")
    (C_pair_behind : Can Pr w K mg base "pair_behind" ["pair", "kind", "value"] 1 (vSp K mg [.s, .s, .s] (rV K) c_pair_behind))
    (C_shows : Can Pr w K mg base "shows" ["pair", "letter"] 1 (vSp K mg [.s, .s] (rV K) c_shows))
    (C_written : Can Pr w K mg base "written" ["kind", "value"] 1 (vSp K mg [.s, .s] (rV K) c_written)) :
    CanM Pr w K mg base "Shade" "moves_from" ["self", "node"] 2 (vSp K mg [.v, .s] (rO K) c_Shade_moves_from) := by
  refine vdefM (k := 1) (b := b_Shade_moves_from) D_Shade_moves_from sc_Shade_moves_from (fun _ _ _ _ _ _ => bndS fun _ => bndS fun _ => bnd0 rfl) [.v, .s] [.v, .v, .o] rO_ok (fun _ _ _ _ => .inl ⟨rfl, Rp.non⟩) (body := fun f cdv A outer s H E hr P => ?_)
  refine vss_cons ?_ ?_
  · refine vs_setV (i := 2) sc_Shade_moves_from.nd rfl (by first | exact Or.inl rfl | exact Or.inr rfl) ?_
    · refine ve_ix (se_var 1) (se_ve ve_int)
  · refine vss_cons ?_ ?_
    · refine vs_setV (i := 3) sc_Shade_moves_from.nd rfl (by first | exact Or.inl rfl | exact Or.inr rfl) ?_
      · refine ve_ix (se_var 1) (se_ve ve_int)
    · refine vss_cons ?_ ?_
      · refine vs_setCO (i := 4) (defScope s_Shade_moves_from) ["self", "node", "at", "pair", "moves"] ["name", "kind", "value"] [2, 3] sc_Shade_moves_from.nd rfl (by first | exact Or.inl rfl | exact Or.inr rfl) rfl ?_ (fun _ _ _ _ P => ?_) (fun _ _ _ _ P => ?_) (fun _ _ _ _ P => ?_)
        · refine vic_any ?_
          · refine se_ve (ve_fld (kc_cons K_Shade_marks kc_nil) (ve_var 0))
        · refine vg_tup 3 rfl ?_
          · refine vgs_cons (vg_name (i := 0) (show (compN ["self", "node", "at", "pair", "moves"] ["name", "kind", "value"] [2, 3]).Nodup by decide +kernel) rfl (by first | exact Or.inl rfl | exact Or.inr rfl)) ?_
            · refine vgs_cons (vg_name (i := 1) (show (compN ["self", "node", "at", "pair", "moves"] ["name", "kind", "value"] [2, 3]).Nodup by decide +kernel) rfl (by first | exact Or.inl rfl | exact Or.inr rfl)) ?_
              · refine vgs_cons (vg_name (i := 2) (show (compN ["self", "node", "at", "pair", "moves"] ["name", "kind", "value"] [2, 3]).Nodup by decide +kernel) rfl (by first | exact Or.inl rfl | exact Or.inr rfl)) vgs_nil
        · exact vif_nil
        · refine ve_tup 3 ?_
          · refine ae_v ?_ ?_
            · refine ve_oe ?_
              · refine oe_callB (ms := [.s]) (hv := bb_len) cd_len B.len_ ?_
                · refine ae_s (se_ve (ve_var 0)) ae_nil
            · refine ae_v (ve_var 0) ?_
              · refine ae_v ?_ ae_nil
                · refine ve_tup 2 ?_
                  · refine ae_v (ve_var 3) ?_
                    · refine ae_v ?_ ae_nil
                      · refine ve_call C_pair_behind (hr.mono (by decide)) ?_
                        · refine ae_s (se_ve (ve_var 4)) ?_
                          · refine ae_s (se_ve (ve_var 1)) ?_
                            · refine ae_s (se_ve (ve_var 2)) ae_nil
      · refine vss_cons ?_ (vss_one (vs_retX 4))
        · refine vs_if ?_ ?_ vss_nil
          · refine ts_w ?_
            · refine tw_and ?_ ?_
              · refine ts_cmp od_lt (se_ve (ve_var 2)) ?_ (nomark _)
                · refine se_oe ?_
                  · refine oe_callB (ms := [.s]) (hv := bb_len) cd_len B.len_ ?_
                    · refine ae_s ?_ ae_nil
                      · refine se_ve (ve_fld (kc_cons K_Shade_look kc_nil) (ve_var 0))
              · refine tw_and1 ?_
                · refine ts_val ?_
                  · refine se_ve ?_
                    · refine ve_call C_shows (hr.mono (by decide)) ?_
                      · refine ae_s (se_ve (ve_var 3)) ?_
                        · refine ae_s ?_ ae_nil
                          · refine se_ve ?_
                            · refine ve_ix ?_ (se_ve (ve_var 2))
                              · refine se_ve (ve_fld (kc_cons K_Shade_look kc_nil) (ve_var 0))
          · refine vss_one ?_
            · refine vs_append 4 ?_
              · refine ve_tup 3 ?_
                · refine ae_v ve_int ?_
                  · refine ae_v ?_ ?_
                    · refine ve_call C_written (hr.mono (by decide)) ?_
                      · refine ae_s (se_ve (ve_str [115, 105, 103, 110])) ?_
                        · refine ae_s ?_ ae_nil
                          · refine se_ve ?_
                            · refine ve_ix ?_ (se_ve ve_int)
                              · refine se_ve ?_
                                · refine ve_ix ?_ (se_ve (ve_var 2))
                                  · refine se_ve (ve_fld (kc_cons K_Shade_look kc_nil) (ve_var 0))
                    · refine ae_v ?_ ae_nil
                      · refine ve_tup 2 ?_
                        · refine ae_v ?_ ?_
                          · refine ve_oe ?_
                            · refine oe_bin od_add (se_ve (ve_var 2)) (se_ve ve_int)
                          · refine ae_v (ve_var 3) ae_nil
abbrev s_Shade_is_end : Stmt := inClass (top 13) 5
theorem sc_Shade_is_end : FnScope ["self", "node"] ["self", "node"] (defScope s_Shade_is_end) := ⟨rfl, rfl, rfl, by decide +kernel, rfl, by decide +kernel, by decide +kernel⟩
def b_Shade_is_end : MS :=
    (msRet (mBin gEq (mVar 1) (mTup (maCons (mCallB gLen (maCons (mFld ["Shade"] "look" (mVar 0)) maNil)) (maCons (mC (.tup [.str [46], .str [46]])) maNil)))))
def c_Shade_is_end : List D → Store → Res D := mFun 2 b_Shade_is_end
theorem ok_Shade_is_end {Pr : Program} {w : World} {K : Frag} {mg : Str → Option Value} {base : Heap} (D_Shade_is_end : DefM K mg "Shade" "is_end" "Shade.is_end" s_Shade_is_end)
    (B : Blt4 mg)
    (c_PLAIN : CTup K mg "PLAIN" [[46], [46]])
    (K_Shade_look : KC K mg "Shade" "look") :
    CanM Pr w K mg base "Shade" "is_end" ["self", "node"] 1 (vSp K mg [.v, .s] (rV K) c_Shade_is_end) := by
  refine vdefM (k := 0) (b := b_Shade_is_end) D_Shade_is_end sc_Shade_is_end (fun _ _ _ _ _ _ => bndS fun _ => bndS fun _ => bnd0 rfl) [.v, .s] [] rV_ok (fun _ _ _ _ => Rp.non) (body := fun f cdv A outer s H E hr P => ?_)
  refine vss_one ?_
  · refine vs_retV ?_
    · refine ve_oe ?_
      · refine oe_cmp (od_eq hr) (se_var 1) ?_ (nomark _)
        · refine se_ve ?_
          · refine ve_tup 2 ?_
            · refine ae_v ?_ ?_
              · refine ve_oe ?_
                · refine oe_callB (ms := [.s]) (hv := bb_len) cd_len B.len_ ?_
                  · refine ae_s ?_ ae_nil
                    · refine se_ve (ve_fld (kc_cons K_Shade_look kc_nil) (ve_var 0))
              · refine ae_v (ve_ctup (ls := [[46], [46]]) c_PLAIN) ae_nil
abbrev s_law_cell_at : Stmt := top 15
theorem sc_law_cell_at : FnScope ["_law_script", "_law_k"] ["_law_script", "_law_k"] (defScope s_law_cell_at) := ⟨rfl, rfl, rfl, by decide +kernel, rfl, by decide +kernel, by decide +kernel⟩
def b_law_cell_at : MS :=
    (msSeq (msIf (mTest (mBin gLt (mVar 1) (mCallB gLen (maCons (mVar 0) maNil)))) (msRet (mBin gIx (mVar 0) (mVar 1))) msNil)
    (msRet (mC (.int 0))))
def c_law_cell_at : List D → Store → Res D := mFun 2 b_law_cell_at
theorem ok_law_cell_at {Pr : Program} {w : World} {K : Frag} {mg : Str → Option Value} {base : Heap} (D_law_cell_at : Def K mg "_law_cell_at" s_law_cell_at)
    (B : Blt4 mg) :
    Can Pr w K mg base "_law_cell_at" ["_law_script", "_law_k"] 1 (vSp K mg [.s, .s] (rV K) c_law_cell_at) := by
  refine vdef (k := 0) (b := b_law_cell_at) D_law_cell_at sc_law_cell_at (fun _ _ _ _ _ _ => bndS fun _ => bndS fun _ => bnd0 rfl) [.s, .s] [] rV_ok (fun _ _ _ _ => Rp.non) (body := fun f cdv A outer s H E hr P => ?_)
  refine vss_cons ?_ ?_
  · refine vs_if ?_ ?_ vss_nil
    · refine ts_cmp od_lt (se_var 1) ?_ (nomark _)
      · refine se_oe ?_
        · refine oe_callB (ms := [.s]) (hv := bb_len) cd_len B.len_ ?_
          · refine ae_s (se_var 0) ae_nil
    · refine vss_one ?_
      · refine vs_retV ?_
        · refine ve_ix (se_var 0) (se_var 1)
  · refine vss_one (vs_retV ve_int)
abbrev s_law_mix : Stmt := top 16
theorem sc_law_mix : FnScope ["_law_cell", "_law_k", "_law_rest", "_law_turn", "_law_number"] ["_law_cell", "_law_k"] (defScope s_law_mix) := ⟨rfl, rfl, rfl, by decide +kernel, rfl, by decide +kernel, by decide +kernel⟩
def b_law_mix : MS :=
    (msSeq (msIf (mTest (mBin gGt (mVar 0) (mBin gPow (mC (.int 10)) (mC (.int 18))))) (msSeq (msSet 2 (mG (mVar 0)))
    (msSeq (msFor (mRng1 (maCons (mVar 1) maNil)) (mgN 3) (msSet 2 (mBin gFdiv (mVar 2) (mBin gPow (mC (.int 10)) (mC (.int 9))))))
    (msRet (mBin gMod (mVar 2) (mBin gPow (mC (.int 10)) (mC (.int 9))))))) msNil)
    (msSeq (msSet 4 (mBin gAdd (mBin gMod (mVar 0) (mC (.int 2147483647))) (mC (.int 7919))))
    (msSeq (msFor (mRng1 (maCons (mBin gAdd (mVar 1) (mC (.int 2))) maNil)) (mgN 3) (msSet 4 (mBin gMod (mBin gAdd (mBin gMul (mVar 4) (mC (.int 48271))) (mC (.int 104729))) (mC (.int 2147483629)))))
    (msRet (mBin gFdiv (mBin gMod (mBin gMul (mVar 4) (mVar 4)) (mC (.int 998244353))) (mC (.int 11)))))))
def c_law_mix : List D → Store → Res D := mFun 5 b_law_mix
theorem ok_law_mix {Pr : Program} {w : World} {K : Frag} {mg : Str → Option Value} {base : Heap} (D_law_mix : Def K mg "_law_mix" s_law_mix)
    (B : Blt4 mg) :
    Can Pr w K mg base "_law_mix" ["_law_cell", "_law_k"] 1 (vSp K mg [.s, .s] (rV K) c_law_mix) := by
  refine vdef (k := 0) (b := b_law_mix) D_law_mix sc_law_mix (fun _ _ _ _ _ _ => bndS fun _ => bndS fun _ => bnd0 rfl) [.s, .s] [.v, .v, .v] rV_ok (fun _ _ _ _ => Rp.non) (body := fun f cdv A outer s H E hr P => ?_)
  refine vss_cons ?_ ?_
  · refine vs_if ?_ ?_ vss_nil
    · refine ts_cmp od_gt (se_var 0) ?_ (nomark _)
      · refine se_oe ?_
        · refine oe_bin od_pow (se_ve ve_int) (se_ve ve_int)
    · refine vss_cons ?_ ?_
      · refine vs_setV (i := 2) sc_law_mix.nd rfl (by first | exact Or.inl rfl | exact Or.inr rfl) (ve_se (se_var 0))
      · refine vss_cons ?_ ?_
        · refine vs_for rfl ?_ (vg_name (i := 3) sc_law_mix.nd rfl (by first | exact Or.inl rfl | exact Or.inr rfl)) ?_
          · refine vi_range1 B.range_ ?_
            · refine ae_s (se_var 1) ae_nil
          · refine vss_one ?_
            · refine vs_setV (i := 2) sc_law_mix.nd rfl (by first | exact Or.inl rfl | exact Or.inr rfl) ?_
              · refine ve_oe ?_
                · refine oe_bin od_fdiv (se_ve (ve_var 2)) ?_
                  · refine se_oe ?_
                    · refine oe_bin od_pow (se_ve ve_int) (se_ve ve_int)
        · refine vss_one ?_
          · refine vs_retV ?_
            · refine ve_oe ?_
              · refine oe_bin od_mod (se_ve (ve_var 2)) ?_
                · refine se_oe ?_
                  · refine oe_bin od_pow (se_ve ve_int) (se_ve ve_int)
  · refine vss_cons ?_ ?_
    · refine vs_setV (i := 4) sc_law_mix.nd rfl (by first | exact Or.inl rfl | exact Or.inr rfl) ?_
      · refine ve_oe ?_
        · refine oe_bin od_add ?_ (se_ve ve_int)
          · refine se_oe ?_
            · refine oe_bin od_mod (se_var 0) (se_ve ve_int)
    · refine vss_cons ?_ ?_
      · refine vs_for rfl ?_ (vg_name (i := 3) sc_law_mix.nd rfl (by first | exact Or.inl rfl | exact Or.inr rfl)) ?_
        · refine vi_range1 B.range_ ?_
          · refine ae_s ?_ ae_nil
            · refine se_oe ?_
              · refine oe_bin od_add (se_var 1) (se_ve ve_int)
        · refine vss_one ?_
          · refine vs_setV (i := 4) sc_law_mix.nd rfl (by first | exact Or.inl rfl | exact Or.inr rfl) ?_
            · refine ve_oe ?_
              · refine oe_bin od_mod ?_ (se_ve ve_int)
                · refine se_oe ?_
                  · refine oe_bin od_add ?_ (se_ve ve_int)
                    · refine se_oe ?_
                      · refine oe_bin od_mul (se_ve (ve_var 4)) (se_ve ve_int)
      · refine vss_one ?_
        · refine vs_retV ?_
          · refine ve_oe ?_
            · refine oe_bin od_fdiv ?_ (se_ve ve_int)
              · refine se_oe ?_
                · refine oe_bin od_mod ?_ (se_ve ve_int)
                  · refine se_oe ?_
                    · refine oe_bin od_mul (se_ve (ve_var 4)) (se_ve (ve_var 4))
abbrev s_law_whole : Stmt := top 17
theorem sc_law_whole : FnScope ["_law_thing"] ["_law_thing"] (defScope s_law_whole) := ⟨rfl, rfl, rfl, by decide +kernel, rfl, by decide +kernel, by decide +kernel⟩
def b_law_whole : MS :=
    (msRet (mAndV (mIsi "int" (mVar 0)) (mNotV (mIsi "bool" (mVar 0)))))
def c_law_whole : List D → Store → Res D := mFun 1 b_law_whole
theorem ok_law_whole {Pr : Program} {w : World} {K : Frag} {mg : Str → Option Value} {base : Heap} (D_law_whole : Def K mg "_law_whole" s_law_whole)
    (B : Blt4 mg) :
    Can Pr w K mg base "_law_whole" ["_law_thing"] 1 (vSp K mg [.s] (rV K) c_law_whole) := by
  refine vdef (k := 0) (b := b_law_whole) D_law_whole sc_law_whole (fun _ _ _ _ _ _ => bndS fun _ => bnd0 rfl) [.s] [] rV_ok (fun _ _ _ _ => Rp.non) (body := fun f cdv A outer s H E hr P => ?_)
  refine vss_one ?_
  · refine vs_retV ?_
    · refine ve_and ?_ ?_
      · refine ve_oe (oe_isi "int" (hb := bt_int) B.isinstance_ B.int_ (se_var 0))
      · refine ve_one ?_
        · refine ve_not ?_
          · refine ve_oe (oe_isi "bool" (hb := bt_bool) B.isinstance_ B.bool_ (se_var 0))
abbrev s_law_colours : Stmt := top 18
theorem sc_law_colours : FnScope ["_law_cell", "_law_many", "_law_step"] ["_law_cell", "_law_many"] (defScope s_law_colours) := ⟨rfl, rfl, rfl, by decide +kernel, rfl, by decide +kernel, by decide +kernel⟩
def b_law_colours : MS :=
    (msSeq (msSet 2 (mBin gIx (mLst (maCons (mC (.int 1)) (maCons (mC (.int 3)) (maCons (mC (.int 5)) (maCons (mC (.int 7)) maNil))))) (mBin gMod (mBin gFdiv (mVar 0) (mC (.int 8))) (mC (.int 4)))))
    (msRet (mBin gAdd (mLst (maCons (mC (.str [46])) maNil)) (mComp (mRng1 (maCons (mVar 1) maNil)) 1 [0, 2] (mgN 0) mYes (mBin gIx (mC (.str [97, 98, 99, 100, 101, 102, 103, 104])) (mBin gMod (mBin gAdd (mVar 1) (mBin gMul (mVar 0) (mVar 2))) (mC (.int 8))))))))
def c_law_colours : List D → Store → Res D := mFun 3 b_law_colours
theorem ok_law_colours {Pr : Program} {w : World} {K : Frag} {mg : Str → Option Value} {base : Heap} (D_law_colours : Def K mg "_law_colours" s_law_colours)
    (B : Blt4 mg) :
    Can Pr w K mg base "_law_colours" ["_law_cell", "_law_many"] 1 (vSp K mg [.s, .s] (rO K) c_law_colours) := by
  refine vdef (k := 0) (b := b_law_colours) D_law_colours sc_law_colours (fun _ _ _ _ _ _ => bndS fun _ => bndS fun _ => bnd0 rfl) [.s, .s] [.v] rO_ok (fun _ _ _ _ => .inl ⟨rfl, Rp.non⟩) (body := fun f cdv A outer s H E hr P => ?_)
  refine vss_cons ?_ ?_
  · refine vs_setV (i := 2) sc_law_colours.nd rfl (by first | exact Or.inl rfl | exact Or.inr rfl) ?_
    · refine ve_ix ?_ ?_
      · refine se_oe ?_
        · refine oe_lst 4 ?_
          · refine ae_v ve_int ?_
            · refine ae_v ve_int ?_
              · refine ae_v ve_int ?_
                · refine ae_v ve_int ae_nil
      · refine se_oe ?_
        · refine oe_bin od_mod ?_ (se_ve ve_int)
          · refine se_oe ?_
            · refine oe_bin od_fdiv (se_var 0) (se_ve ve_int)
  · refine vss_one ?_
    · refine vs_retO ?_
      · refine oe_bin od_add ?_ ?_
        · refine se_oe ?_
          · refine oe_lst 1 ?_
            · refine ae_v (ve_str [46]) ae_nil
        · refine se_oe ?_
          · refine oe_comp (defScope s_law_colours) ["_law_cell", "_law_many", "_law_step"] ["_law_k"] [0, 2] rfl ?_ (fun _ _ _ _ P => ?_) (fun _ _ _ _ P => ?_) (fun _ _ _ _ P => ?_)
            · refine vic_vi ?_
              · refine vi_range1 B.range_ ?_
                · refine ae_s (se_var 1) ae_nil
            · exact vg_name (i := 0) (show (compN ["_law_cell", "_law_many", "_law_step"] ["_law_k"] [0, 2]).Nodup by decide +kernel) rfl (by first | exact Or.inl rfl | exact Or.inr rfl)
            · exact vif_nil
            · refine ve_ix (se_ve (ve_str [97, 98, 99, 100, 101, 102, 103, 104])) ?_
              · refine se_oe ?_
                · refine oe_bin od_mod ?_ (se_ve ve_int)
                  · refine se_oe ?_
                    · refine oe_bin od_add (se_var 1) ?_
                      · refine se_oe ?_
                        · refine oe_bin od_mul (se_ve (ve_var 0)) (se_ve (ve_var 2))
abbrev s_law_signs : Stmt := top 19
theorem sc_law_signs : FnScope ["_law_some"] [] (defScope s_law_signs) := ⟨rfl, rfl, rfl, by decide +kernel, rfl, by decide +kernel, by decide +kernel⟩
def b_law_signs : MS :=
    (msSeq (msSet 0 (mC (.str [32, 33, 34, 35, 36, 38, 39, 40, 41, 42, 43, 44, 45, 46, 47, 48, 49, 50, 51, 52, 53, 54, 55, 56, 57, 58, 59, 60, 61, 62, 63, 64, 65, 66, 67, 68, 69, 70, 71, 72, 73, 74, 75, 76, 77, 78, 79, 80, 81, 82, 83, 84, 85, 86, 87, 88, 89, 90])))
    (msRet (mBin gAdd (mVar 0) (mC (.str [91, 92, 93, 94, 95, 96, 97, 98, 99, 100, 101, 102, 103, 104, 105, 106, 107, 108, 109, 110, 111, 112, 113, 114, 115, 116, 117, 118, 119, 120, 121, 122, 123, 124, 125])))))
def c_law_signs : List D → Store → Res D := mFun 1 b_law_signs
theorem ok_law_signs {Pr : Program} {w : World} {K : Frag} {mg : Str → Option Value} {base : Heap} (D_law_signs : Def K mg "_law_signs" s_law_signs)
    (B : Blt4 mg) :
    Can Pr w K mg base "_law_signs" [] 1 (vSp K mg [] (rV K) c_law_signs) := by
  refine vdef (k := 0) (b := b_law_signs) D_law_signs sc_law_signs (fun _ _ _ _ _ _ => bnd0 rfl) [] [.v] rV_ok (fun _ _ _ _ => Rp.non) (body := fun f cdv A outer s H E hr P => ?_)
  refine vss_cons (vs_setV (i := 0) sc_law_signs.nd rfl (by first | exact Or.inl rfl | exact Or.inr rfl) (ve_str [32, 33, 34, 35, 36, 38, 39, 40, 41, 42, 43, 44, 45, 46, 47, 48, 49, 50, 51, 52, 53, 54, 55, 56, 57, 58, 59, 60, 61, 62, 63, 64, 65, 66, 67, 68, 69, 70, 71, 72, 73, 74, 75, 76, 77, 78, 79, 80, 81, 82, 83, 84, 85, 86, 87, 88, 89, 90])) ?_
  · refine vss_one ?_
    · refine vs_retV ?_
      · refine ve_oe ?_
        · refine oe_bin od_add (se_ve (ve_var 0)) (se_ve (ve_str [91, 92, 93, 94, 95, 96, 97, 98, 99, 100, 101, 102, 103, 104, 105, 106, 107, 108, 109, 110, 111, 112, 113, 114, 115, 116, 117, 118, 119, 120, 121, 122, 123, 124, 125]))
abbrev s_law_look : Stmt := top 20
theorem sc_law_look : FnScope ["_law_script", "_law_head", "_law_inks", "_law_grounds", "_law_shown", "_law_ink", "_law_ground", "_law_cell", "_law_pick", "_law_sign", "_law_seen"] ["_law_script"] (defScope s_law_look) := ⟨rfl, rfl, rfl, by decide +kernel, rfl, by decide +kernel, by decide +kernel⟩
def b_law_look : MS :=
    (msSeq (msSet 1 (mCall c_law_cell_at (maCons (mVar 0) (maCons (mC (.int 0)) maNil))))
    (msSeq (msSet 2 (mCall c_law_colours (maCons (mCall c_law_mix (maCons (mVar 1) (maCons (mC (.int 1)) maNil))) (maCons (mBin gIx (mLst (maCons (mC (.int 3)) (maCons (mC (.int 3)) (maCons (mC (.int 1)) (maCons (mC (.int 8)) maNil))))) (mBin gMod (mVar 1) (mC (.int 4)))) maNil))))
    (msSeq (msSet 3 (mCall c_law_colours (maCons (mCall c_law_mix (maCons (mVar 1) (maCons (mC (.int 2)) maNil))) (maCons (mBin gIx (mLst (maCons (mC (.int 2)) (maCons (mC (.int 1)) (maCons (mC (.int 1)) (maCons (mC (.int 8)) maNil))))) (mBin gMod (mVar 1) (mC (.int 4)))) maNil))))
    (msSeq (msSet 4 (mLst maNil))
    (msSeq (msSet 5 (mC (.str [46])))
    (msSeq (msSet 6 (mC (.str [46])))
    (msSeq (msFor (mIter (mSl (mVar 0) (moS (mC (.int 2))) (moS (mBin gAdd (mC (.int 2)) (mBin gIx (mLst (maCons (mC (.int 20)) (maCons (mC (.int 20)) (maCons (mC (.int 20)) (maCons (mC (.int 5)) maNil))))) (mBin gMod (mVar 1) (mC (.int 4)))))))) (mgN 7) (msSeq (msIf (mTest (mBin gEq (mBin gMod (mCall c_law_mix (maCons (mVar 7) (maCons (mC (.int 3)) maNil))) (mC (.int 3))) (mC (.int 0)))) (msSet 5 (mBin gIx (mVar 2) (mBin gMod (mCall c_law_mix (maCons (mVar 7) (maCons (mC (.int 4)) maNil))) (mCallB gLen (maCons (mVar 2) maNil))))) msNil)
    (msSeq (msIf (mTest (mBin gEq (mBin gMod (mCall c_law_mix (maCons (mVar 7) (maCons (mC (.int 5)) maNil))) (mC (.int 4))) (mC (.int 0)))) (msSet 6 (mBin gIx (mVar 3) (mBin gMod (mCall c_law_mix (maCons (mVar 7) (maCons (mC (.int 6)) maNil))) (mCallB gLen (maCons (mVar 3) maNil))))) msNil)
    (msSeq (msSet 8 (mCall c_law_mix (maCons (mVar 7) (maCons (mC (.int 7)) maNil))))
    (msSeq (msSet 9 (mBin gIx (mC (.str [32, 97, 120, 91, 65, 93, 47, 46, 98, 90, 32, 91, 123, 125, 104])) (mBin gMod (mBin gFdiv (mVar 8) (mC (.int 3))) (mC (.int 15)))))
    (msSeq (msIf (mTest (mBin gEq (mBin gMod (mVar 8) (mC (.int 3))) (mC (.int 2)))) (msSet 9 (mBin gIx (mCall c_law_signs maNil) (mBin gMod (mBin gFdiv (mVar 8) (mC (.int 3))) (mC (.int 93))))) msNil)
    (msSeq (msSet 10 (mTup (maCons (mVar 9) (maCons (mBin gIx (mLst (maCons (mVar 5) (maCons (mC (.str [46])) maNil))) (mCallB gInt (maCons (mBin gEq (mVar 9) (mC (.str [32]))) maNil))) (maCons (mVar 6) maNil)))))
    (msSet 4 (mBin gAdd (mVar 4) (mBin gMul (mLst (maCons (mVar 10) maNil)) (mBin gAdd (mC (.int 1)) (mBin gMod (mCall c_law_mix (maCons (mVar 7) (maCons (mC (.int 8)) maNil))) (mBin gIx (mLst (maCons (mC (.int 1)) (maCons (mC (.int 1)) (maCons (mC (.int 10)) (maCons (mC (.int 1)) maNil))))) (mBin gMod (mVar 1) (mC (.int 4))))))))))))))))
    (msRet (mVar 4)))))))))
def c_law_look : List D → Store → Res D := mFun 11 b_law_look
theorem ok_law_look {Pr : Program} {w : World} {K : Frag} {mg : Str → Option Value} {base : Heap} (D_law_look : Def K mg "_law_look" s_law_look)
    (B : Blt4 mg)
    (C_law_cell_at : Can Pr w K mg base "_law_cell_at" ["_law_script", "_law_k"] 1 (vSp K mg [.s, .s] (rV K) c_law_cell_at))
    (C_law_colours : Can Pr w K mg base "_law_colours" ["_law_cell", "_law_many"] 1 (vSp K mg [.s, .s] (rO K) c_law_colours))
    (C_law_mix : Can Pr w K mg base "_law_mix" ["_law_cell", "_law_k"] 1 (vSp K mg [.s, .s] (rV K) c_law_mix))
    (C_law_signs : Can Pr w K mg base "_law_signs" [] 1 (vSp K mg [] (rV K) c_law_signs)) :
    Can Pr w K mg base "_law_look" ["_law_script"] 2 (vSp K mg [.s] (rV K) c_law_look) := by
  refine vdef (k := 1) (b := b_law_look) D_law_look sc_law_look (fun _ _ _ _ _ _ => bndS fun _ => bnd0 rfl) [.s] [.v, .v, .v, .v, .v, .v, .v, .v, .v, .v] rV_ok (fun _ _ _ _ => Rp.non) (body := fun f cdv A outer s H E hr P => ?_)
  refine vss_cons ?_ ?_
  · refine vs_setV (i := 1) sc_law_look.nd rfl (by first | exact Or.inl rfl | exact Or.inr rfl) ?_
    · refine ve_call C_law_cell_at (hr.mono (by decide)) ?_
      · refine ae_s (se_var 0) ?_
        · refine ae_s (se_ve ve_int) ae_nil
  · refine vss_cons ?_ ?_
    · refine vs_setV (i := 2) sc_law_look.nd rfl (by first | exact Or.inl rfl | exact Or.inr rfl) ?_
      · refine ve_oe ?_
        · refine oe_call C_law_colours (hr.mono (by decide)) ?_
          · refine ae_s ?_ ?_
            · refine se_ve ?_
              · refine ve_call C_law_mix (hr.mono (by decide)) ?_
                · refine ae_s (se_ve (ve_var 1)) ?_
                  · refine ae_s (se_ve ve_int) ae_nil
            · refine ae_s ?_ ae_nil
              · refine se_ve ?_
                · refine ve_ix ?_ ?_
                  · refine se_oe ?_
                    · refine oe_lst 4 ?_
                      · refine ae_v ve_int ?_
                        · refine ae_v ve_int ?_
                          · refine ae_v ve_int ?_
                            · refine ae_v ve_int ae_nil
                  · refine se_oe ?_
                    · refine oe_bin od_mod (se_ve (ve_var 1)) (se_ve ve_int)
    · refine vss_cons ?_ ?_
      · refine vs_setV (i := 3) sc_law_look.nd rfl (by first | exact Or.inl rfl | exact Or.inr rfl) ?_
        · refine ve_oe ?_
          · refine oe_call C_law_colours (hr.mono (by decide)) ?_
            · refine ae_s ?_ ?_
              · refine se_ve ?_
                · refine ve_call C_law_mix (hr.mono (by decide)) ?_
                  · refine ae_s (se_ve (ve_var 1)) ?_
                    · refine ae_s (se_ve ve_int) ae_nil
              · refine ae_s ?_ ae_nil
                · refine se_ve ?_
                  · refine ve_ix ?_ ?_
                    · refine se_oe ?_
                      · refine oe_lst 4 ?_
                        · refine ae_v ve_int ?_
                          · refine ae_v ve_int ?_
                            · refine ae_v ve_int ?_
                              · refine ae_v ve_int ae_nil
                    · refine se_oe ?_
                      · refine oe_bin od_mod (se_ve (ve_var 1)) (se_ve ve_int)
      · refine vss_cons ?_ ?_
        · refine vs_setV (i := 4) sc_law_look.nd rfl (by first | exact Or.inl rfl | exact Or.inr rfl) ?_
          · refine ve_oe (oe_lst 0 ae_nil)
        · refine vss_cons (vs_setV (i := 5) sc_law_look.nd rfl (by first | exact Or.inl rfl | exact Or.inr rfl) (ve_str [46])) ?_
          · refine vss_cons (vs_setV (i := 6) sc_law_look.nd rfl (by first | exact Or.inl rfl | exact Or.inr rfl) (ve_str [46])) ?_
            · refine vss_cons ?_ ?_
              · refine vs_for rfl ?_ (vg_name (i := 7) sc_law_look.nd rfl (by first | exact Or.inl rfl | exact Or.inr rfl)) ?_
                · refine vi_any ?_
                  · refine we_ve ?_
                    · refine ve_oe ?_
                      · refine oe_slice (se_var 0) (vo_some ve_int) ?_
                        · refine vo_some ?_
                          · refine ve_oe ?_
                            · refine oe_bin od_add (se_ve ve_int) ?_
                              · refine se_ve ?_
                                · refine ve_ix ?_ ?_
                                  · refine se_oe ?_
                                    · refine oe_lst 4 ?_
                                      · refine ae_v ve_int ?_
                                        · refine ae_v ve_int ?_
                                          · refine ae_v ve_int ?_
                                            · refine ae_v ve_int ae_nil
                                  · refine se_oe ?_
                                    · refine oe_bin od_mod (se_ve (ve_var 1)) (se_ve ve_int)
                · refine vss_cons ?_ ?_
                  · refine vs_if ?_ ?_ vss_nil
                    · refine ts_cmp (od_eq hr) ?_ (se_ve ve_int) (nomark _)
                      · refine se_oe ?_
                        · refine oe_bin od_mod ?_ (se_ve ve_int)
                          · refine se_ve ?_
                            · refine ve_call C_law_mix (hr.mono (by decide)) ?_
                              · refine ae_s (se_ve (ve_var 7)) ?_
                                · refine ae_s (se_ve ve_int) ae_nil
                    · refine vss_one ?_
                      · refine vs_setV (i := 5) sc_law_look.nd rfl (by first | exact Or.inl rfl | exact Or.inr rfl) ?_
                        · refine ve_ix (se_ve (ve_var 2)) ?_
                          · refine se_oe ?_
                            · refine oe_bin od_mod ?_ ?_
                              · refine se_ve ?_
                                · refine ve_call C_law_mix (hr.mono (by decide)) ?_
                                  · refine ae_s (se_ve (ve_var 7)) ?_
                                    · refine ae_s (se_ve ve_int) ae_nil
                              · refine se_oe ?_
                                · refine oe_callB (ms := [.s]) (hv := bb_len) cd_len B.len_ ?_
                                  · refine ae_s (se_ve (ve_var 2)) ae_nil
                  · refine vss_cons ?_ ?_
                    · refine vs_if ?_ ?_ vss_nil
                      · refine ts_cmp (od_eq hr) ?_ (se_ve ve_int) (nomark _)
                        · refine se_oe ?_
                          · refine oe_bin od_mod ?_ (se_ve ve_int)
                            · refine se_ve ?_
                              · refine ve_call C_law_mix (hr.mono (by decide)) ?_
                                · refine ae_s (se_ve (ve_var 7)) ?_
                                  · refine ae_s (se_ve ve_int) ae_nil
                      · refine vss_one ?_
                        · refine vs_setV (i := 6) sc_law_look.nd rfl (by first | exact Or.inl rfl | exact Or.inr rfl) ?_
                          · refine ve_ix (se_ve (ve_var 3)) ?_
                            · refine se_oe ?_
                              · refine oe_bin od_mod ?_ ?_
                                · refine se_ve ?_
                                  · refine ve_call C_law_mix (hr.mono (by decide)) ?_
                                    · refine ae_s (se_ve (ve_var 7)) ?_
                                      · refine ae_s (se_ve ve_int) ae_nil
                                · refine se_oe ?_
                                  · refine oe_callB (ms := [.s]) (hv := bb_len) cd_len B.len_ ?_
                                    · refine ae_s (se_ve (ve_var 3)) ae_nil
                    · refine vss_cons ?_ ?_
                      · refine vs_setV (i := 8) sc_law_look.nd rfl (by first | exact Or.inl rfl | exact Or.inr rfl) ?_
                        · refine ve_call C_law_mix (hr.mono (by decide)) ?_
                          · refine ae_s (se_ve (ve_var 7)) ?_
                            · refine ae_s (se_ve ve_int) ae_nil
                      · refine vss_cons ?_ ?_
                        · refine vs_setV (i := 9) sc_law_look.nd rfl (by first | exact Or.inl rfl | exact Or.inr rfl) ?_
                          · refine ve_ix (se_ve (ve_str [32, 97, 120, 91, 65, 93, 47, 46, 98, 90, 32, 91, 123, 125, 104])) ?_
                            · refine se_oe ?_
                              · refine oe_bin od_mod ?_ (se_ve ve_int)
                                · refine se_oe ?_
                                  · refine oe_bin od_fdiv (se_ve (ve_var 8)) (se_ve ve_int)
                        · refine vss_cons ?_ ?_
                          · refine vs_if ?_ ?_ vss_nil
                            · refine ts_cmp (od_eq hr) ?_ (se_ve ve_int) (nomark _)
                              · refine se_oe ?_
                                · refine oe_bin od_mod (se_ve (ve_var 8)) (se_ve ve_int)
                            · refine vss_one ?_
                              · refine vs_setV (i := 9) sc_law_look.nd rfl (by first | exact Or.inl rfl | exact Or.inr rfl) ?_
                                · refine ve_ix (se_ve (ve_call0 C_law_signs (hr.mono (by decide)))) ?_
                                  · refine se_oe ?_
                                    · refine oe_bin od_mod ?_ (se_ve ve_int)
                                      · refine se_oe ?_
                                        · refine oe_bin od_fdiv (se_ve (ve_var 8)) (se_ve ve_int)
                          · refine vss_cons ?_ ?_
                            · refine vs_setV (i := 10) sc_law_look.nd rfl (by first | exact Or.inl rfl | exact Or.inr rfl) ?_
                              · refine ve_tup 3 ?_
                                · refine ae_v (ve_var 9) ?_
                                  · refine ae_v ?_ ?_
                                    · refine ve_ix ?_ ?_
                                      · refine se_oe ?_
                                        · refine oe_lst 2 ?_
                                          · refine ae_v (ve_var 5) ?_
                                            · refine ae_v (ve_str [46]) ae_nil
                                      · refine se_oe ?_
                                        · refine oe_callT (ms := [.s]) (hv := bt_int) cd_int B.int_ ?_
                                          · refine ae_s ?_ ae_nil
                                            · refine se_oe ?_
                                              · refine oe_cmp (od_eq hr) (se_ve (ve_var 9)) (se_ve (ve_str [32])) (nomark _)
                                    · refine ae_v (ve_var 6) ae_nil
                            · refine vss_one ?_
                              · refine vs_setV (i := 4) sc_law_look.nd rfl (by first | exact Or.inl rfl | exact Or.inr rfl) ?_
                                · refine ve_oe ?_
                                  · refine oe_bin od_add (se_ve (ve_var 4)) ?_
                                    · refine se_oe ?_
                                      · refine oe_bin od_mul ?_ ?_
                                        · refine se_oe ?_
                                          · refine oe_lst 1 ?_
                                            · refine ae_v (ve_var 10) ae_nil
                                        · refine se_oe ?_
                                          · refine oe_bin od_add (se_ve ve_int) ?_
                                            · refine se_oe ?_
                                              · refine oe_bin od_mod ?_ ?_
                                                · refine se_ve ?_
                                                  · refine ve_call C_law_mix (hr.mono (by decide)) ?_
                                                    · refine ae_s (se_ve (ve_var 7)) ?_
                                                      · refine ae_s (se_ve ve_int) ae_nil
                                                · refine se_ve ?_
                                                  · refine ve_ix ?_ ?_
                                                    · refine se_oe ?_
                                                      · refine oe_lst 4 ?_
                                                        · refine ae_v ve_int ?_
                                                          · refine ae_v ve_int ?_
                                                            · refine ae_v ve_int ?_
                                                              · refine ae_v ve_int ae_nil
                                                    · refine se_oe ?_
                                                      · refine oe_bin od_mod (se_ve (ve_var 1)) (se_ve ve_int)
              · refine vss_one (vs_retV (ve_var 4))
abbrev s_law_truth : Stmt := top 21
theorem sc_law_truth : FnScope ["_law_found", "_law_due_here"] ["_law_found", "_law_due_here"] (defScope s_law_truth) := ⟨rfl, rfl, rfl, by decide +kernel, rfl, by decide +kernel, by decide +kernel⟩
def b_law_truth : MS :=
    (msRet (mAndV (mIsi "bool" (mVar 0)) (mBin gEq (mVar 0) (mVar 1))))
def c_law_truth : List D → Store → Res D := mFun 2 b_law_truth
theorem ok_law_truth {Pr : Program} {w : World} {K : Frag} {mg : Str → Option Value} {base : Heap} (D_law_truth : Def K mg "_law_truth" s_law_truth)
    (B : Blt4 mg) :
    Can Pr w K mg base "_law_truth" ["_law_found", "_law_due_here"] 1 (vSp K mg [.s, .s] (rV K) c_law_truth) := by
  refine vdef (k := 0) (b := b_law_truth) D_law_truth sc_law_truth (fun _ _ _ _ _ _ => bndS fun _ => bndS fun _ => bnd0 rfl) [.s, .s] [] rV_ok (fun _ _ _ _ => Rp.non) (body := fun f cdv A outer s H E hr P => ?_)
  refine vss_one ?_
  · refine vs_retV ?_
    · refine ve_and ?_ ?_
      · refine ve_oe (oe_isi "bool" (hb := bt_bool) B.isinstance_ B.bool_ (se_var 0))
      · refine ve_one ?_
        · refine ve_oe ?_
          · refine oe_cmp (od_eq hr) (se_var 0) (se_var 1) (nomark _)
abbrev s_law_due : Stmt := top 22
theorem sc_law_due : FnScope ["_law_shown", "_law_inks", "_law_grounds", "_law_node", "_law_at", "_law_state", "_law_moves", "_law_ink", "_law_ground"] ["_law_shown", "_law_inks", "_law_grounds", "_law_node"] (defScope s_law_due) := ⟨rfl, rfl, rfl, by decide +kernel, rfl, by decide +kernel, by decide +kernel⟩
def b_law_due : MS :=
    (msSeq (msAsg (mG (mVar 3)) (mgN' 2 (mgsCons (mgN 4) (mgsCons (mgN 5) mgsNil))))
    (msSeq (msSet 6 (mLst (maCons (mTup (maCons (mC (.int 2)) (maCons (mC (.str [91, 93])) (maCons (mTup (maCons (mVar 4) (maCons (mTup (maCons (mC (.str [46])) (maCons (mC (.str [46])) maNil))) maNil))) maNil)))) maNil)))
    (msSeq (msFor (mIter (mVar 1)) (mgN 7) (msApp 6 (mTup (maCons (mC (.int 3)) (maCons (mBin gAdd (mBin gAdd (mC (.str [91])) (mVar 7)) (mC (.str [93]))) (maCons (mTup (maCons (mVar 4) (maCons (mTup (maCons (mVar 7) (maCons (mBin gIx (mVar 5) (mC (.int 1))) maNil))) maNil))) maNil))))))
    (msSeq (msFor (mIter (mVar 2)) (mgN 8) (msApp 6 (mTup (maCons (mC (.int 4)) (maCons (mBin gAdd (mBin gAdd (mC (.str [91, 47])) (mVar 8)) (mC (.str [93]))) (maCons (mTup (maCons (mVar 4) (maCons (mTup (maCons (mBin gIx (mVar 5) (mC (.int 0))) (maCons (mVar 8) maNil))) maNil))) maNil))))))
    (msSeq (msIf (mtAnd (mTest (mBin gLt (mVar 4) (mCallB gLen (maCons (mVar 0) maNil)))) (mtAnd (mTest (mBin gEq (mBin gIx (mBin gIx (mVar 0) (mVar 4)) (mC (.int 2))) (mBin gIx (mVar 5) (mC (.int 1))))) (mtOr (mTest (mBin gEq (mBin gIx (mBin gIx (mVar 0) (mVar 4)) (mC (.int 0))) (mC (.str [32])))) (mTest (mBin gEq (mBin gIx (mBin gIx (mVar 0) (mVar 4)) (mC (.int 1))) (mBin gIx (mVar 5) (mC (.int 0)))))))) (msApp 6 (mTup (maCons (mC (.int 0)) (maCons (mBin gIx (mLst (maCons (mBin gIx (mBin gIx (mVar 0) (mVar 4)) (mC (.int 0))) (maCons (mC (.str [91, 91])) maNil))) (mCallB gInt (maCons (mBin gEq (mBin gIx (mBin gIx (mVar 0) (mVar 4)) (mC (.int 0))) (mC (.str [91]))) maNil))) (maCons (mTup (maCons (mBin gAdd (mVar 4) (mC (.int 1))) (maCons (mVar 5) maNil))) maNil))))) msNil)
    (msRet (mVar 6)))))))
def c_law_due : List D → Store → Res D := mFun 9 b_law_due
theorem ok_law_due {Pr : Program} {w : World} {K : Frag} {mg : Str → Option Value} {base : Heap} (D_law_due : Def K mg "_law_due" s_law_due)
    (B : Blt4 mg) :
    Can Pr w K mg base "_law_due" ["_law_shown", "_law_inks", "_law_grounds", "_law_node"] 1 (vSp K mg [.s, .s, .s, .s] (rO K) c_law_due) := by
  refine vdef (k := 0) (b := b_law_due) D_law_due sc_law_due (fun _ _ _ _ _ _ => bndS fun _ => bndS fun _ => bndS fun _ => bndS fun _ => bnd0 rfl) [.s, .s, .s, .s] [.v, .v, .o, .v, .v] rO_ok (fun _ _ _ _ => .inl ⟨rfl, Rp.non⟩) (body := fun f cdv A outer s H E hr P => ?_)
  refine vss_cons ?_ ?_
  · refine vs_asg (ve_se (se_var 3)) ?_
    · refine vg_tup 2 rfl ?_
      · refine vgs_cons (vg_name (i := 4) sc_law_due.nd rfl (by first | exact Or.inl rfl | exact Or.inr rfl)) ?_
        · refine vgs_cons (vg_name (i := 5) sc_law_due.nd rfl (by first | exact Or.inl rfl | exact Or.inr rfl)) vgs_nil
  · refine vss_cons ?_ ?_
    · refine vs_setO (i := 6) sc_law_due.nd rfl (by first | exact Or.inl rfl | exact Or.inr rfl) ?_
      · refine oe_lst 1 ?_
        · refine ae_v ?_ ae_nil
          · refine ve_tup 3 ?_
            · refine ae_v ve_int ?_
              · refine ae_v (ve_str [91, 93]) ?_
                · refine ae_v ?_ ae_nil
                  · refine ve_tup 2 ?_
                    · refine ae_v (ve_var 4) ?_
                      · refine ae_v ?_ ae_nil
                        · refine ve_tup 2 ?_
                          · refine ae_v (ve_str [46]) ?_
                            · refine ae_v (ve_str [46]) ae_nil
    · refine vss_cons ?_ ?_
      · refine vs_for rfl (vi_any (we_var 1)) (vg_name (i := 7) sc_law_due.nd rfl (by first | exact Or.inl rfl | exact Or.inr rfl)) ?_
        · refine vss_one ?_
          · refine vs_append 6 ?_
            · refine ve_tup 3 ?_
              · refine ae_v ve_int ?_
                · refine ae_v ?_ ?_
                  · refine ve_oe ?_
                    · refine oe_bin od_add ?_ (se_ve (ve_str [93]))
                      · refine se_oe ?_
                        · refine oe_bin od_add (se_ve (ve_str [91])) (se_ve (ve_var 7))
                  · refine ae_v ?_ ae_nil
                    · refine ve_tup 2 ?_
                      · refine ae_v (ve_var 4) ?_
                        · refine ae_v ?_ ae_nil
                          · refine ve_tup 2 ?_
                            · refine ae_v (ve_var 7) ?_
                              · refine ae_v ?_ ae_nil
                                · refine ve_ix (se_ve (ve_var 5)) (se_ve ve_int)
      · refine vss_cons ?_ ?_
        · refine vs_for rfl (vi_any (we_var 2)) (vg_name (i := 8) sc_law_due.nd rfl (by first | exact Or.inl rfl | exact Or.inr rfl)) ?_
          · refine vss_one ?_
            · refine vs_append 6 ?_
              · refine ve_tup 3 ?_
                · refine ae_v ve_int ?_
                  · refine ae_v ?_ ?_
                    · refine ve_oe ?_
                      · refine oe_bin od_add ?_ (se_ve (ve_str [93]))
                        · refine se_oe ?_
                          · refine oe_bin od_add (se_ve (ve_str [91, 47])) (se_ve (ve_var 8))
                    · refine ae_v ?_ ae_nil
                      · refine ve_tup 2 ?_
                        · refine ae_v (ve_var 4) ?_
                          · refine ae_v ?_ ae_nil
                            · refine ve_tup 2 ?_
                              · refine ae_v ?_ ?_
                                · refine ve_ix (se_ve (ve_var 5)) (se_ve ve_int)
                                · refine ae_v (ve_var 8) ae_nil
        · refine vss_cons ?_ (vss_one (vs_retX 6))
          · refine vs_if ?_ ?_ vss_nil
            · refine ts_w ?_
              · refine tw_and ?_ ?_
                · refine ts_cmp od_lt (se_ve (ve_var 4)) ?_ (nomark _)
                  · refine se_oe ?_
                    · refine oe_callB (ms := [.s]) (hv := bb_len) cd_len B.len_ ?_
                      · refine ae_s (se_var 0) ae_nil
                · refine tw_and ?_ ?_
                  · refine ts_cmp (od_eq hr) ?_ ?_ (nomark _)
                    · refine se_ve ?_
                      · refine ve_ix ?_ (se_ve ve_int)
                        · refine se_ve ?_
                          · refine ve_ix (se_var 0) (se_ve (ve_var 4))
                    · refine se_ve ?_
                      · refine ve_ix (se_ve (ve_var 5)) (se_ve ve_int)
                  · refine tw_and1 ?_
                    · refine ts_w ?_
                      · refine tw_or ?_ ?_
                        · refine ts_cmp (od_eq hr) ?_ (se_ve (ve_str [32])) (nomark _)
                          · refine se_ve ?_
                            · refine ve_ix ?_ (se_ve ve_int)
                              · refine se_ve ?_
                                · refine ve_ix (se_var 0) (se_ve (ve_var 4))
                        · refine tw_or1 ?_
                          · refine ts_cmp (od_eq hr) ?_ ?_ (nomark _)
                            · refine se_ve ?_
                              · refine ve_ix ?_ (se_ve ve_int)
                                · refine se_ve ?_
                                  · refine ve_ix (se_var 0) (se_ve (ve_var 4))
                            · refine se_ve ?_
                              · refine ve_ix (se_ve (ve_var 5)) (se_ve ve_int)
            · refine vss_one ?_
              · refine vs_append 6 ?_
                · refine ve_tup 3 ?_
                  · refine ae_v ve_int ?_
                    · refine ae_v ?_ ?_
                      · refine ve_ix ?_ ?_
                        · refine se_oe ?_
                          · refine oe_lst 2 ?_
                            · refine ae_v ?_ ?_
                              · refine ve_ix ?_ (se_ve ve_int)
                                · refine se_ve ?_
                                  · refine ve_ix (se_var 0) (se_ve (ve_var 4))
                              · refine ae_v (ve_str [91, 91]) ae_nil
                        · refine se_oe ?_
                          · refine oe_callT (ms := [.s]) (hv := bt_int) cd_int B.int_ ?_
                            · refine ae_s ?_ ae_nil
                              · refine se_oe ?_
                                · refine oe_cmp (od_eq hr) ?_ (se_ve (ve_str [91])) (nomark _)
                                  · refine se_ve ?_
                                    · refine ve_ix ?_ (se_ve ve_int)
                                      · refine se_ve ?_
                                        · refine ve_ix (se_var 0) (se_ve (ve_var 4))
                      · refine ae_v ?_ ae_nil
                        · refine ve_tup 2 ?_
                          · refine ae_v ?_ ?_
                            · refine ve_oe ?_
                              · refine oe_bin od_add (se_ve (ve_var 4)) (se_ve ve_int)
                            · refine ae_v (ve_var 5) ae_nil
abbrev s_law_right : Stmt := top 23
theorem sc_law_right : FnScope ["_law_trail", "_law_shown", "_law_inks", "_law_grounds", "_law_picks", "_law_nodes", "_law_at", "_law_here", "_law_due_here", "_law_ink", "_law_pick", "_law_node", "_law_found", "_law_move"] ["_law_trail", "_law_shown", "_law_inks", "_law_grounds", "_law_picks"] (defScope s_law_right) := ⟨rfl, rfl, rfl, by decide +kernel, rfl, by decide +kernel, by decide +kernel⟩
def b_law_right : MS :=
    (msSeq (msIf (mtOr (mtNot (mTru (mIsC "Shade" (mG (mVar 0))))) (mtOr (mTest (mBin gNe (mMeth "Shade" "first_node" c_Shade_first_node (mG (mVar 0)) maNil) (mTup (maCons (mC (.int 0)) (maCons (mTup (maCons (mC (.str [46])) (maCons (mC (.str [46])) maNil))) maNil))))) (mTest (mBin gNe (mMeth "Shade" "last_at" c_Shade_last_at (mG (mVar 0)) maNil) (mCallB gLen (maCons (mVar 1) maNil)))))) (msRet (mC (.bl false))) msNil)
    (msSeq (msSet 5 (mLst maNil))
    (msSeq (msFor (mRng1 (maCons (mBin gAdd (mCallB gLen (maCons (mVar 1) maNil)) (mC (.int 1))) maNil)) (mgN 6) (msSeq (msSet 7 (mMeth "Shade" "nodes_at" c_Shade_nodes_at (mG (mVar 0)) (maCons (mVar 6) maNil)))
    (msSeq (msSet 8 (mLst maNil))
    (msSeq (msFor (mIter (mVar 2)) (mgN 9) (msSet 8 (mBin gAdd (mVar 8) (mComp (mIter (mVar 3)) 1 [6, 9] (mgN 0) mYes (mTup (maCons (mVar 1) (maCons (mTup (maCons (mVar 2) (maCons (mVar 0) maNil))) maNil)))))))
    (msSeq (msIf (mtOr (mtNot (mTru (mIsi "list" (mVar 7)))) (mTest (mBin gNe (mCallB gSortN (maCons (mVar 7) maNil)) (mCallB gSortN (maCons (mVar 8) maNil))))) (msRet (mC (.bl false))) msNil)
    (msSeq (msSet 5 (mBin gAdd (mVar 5) (mVar 8)))
    (msClear 7)))))))
    (msSeq (msFor (mIter (mBin gAdd (mVar 4) (mLst (maCons (mC (.int 0)) maNil)))) (mgN 10) (msSeq (msSet 11 (mBin gIx (mVar 5) (mBin gMod (mVar 10) (mCallB gLen (maCons (mVar 5) maNil)))))
    (msSeq (msSet 12 (mMeth "Shade" "moves_from" c_Shade_moves_from (mG (mVar 0)) (maCons (mVar 11) maNil)))
    (msSeq (msIf (mtOr (mtNot (mTru (mIsi "list" (mVar 12)))) (mTest (mBin gNe (mCallB gSortN (maCons (mVar 12) maNil)) (mCallB gSortN (maCons (mCall c_law_due (maCons (mVar 1) (maCons (mVar 2) (maCons (mVar 3) (maCons (mVar 11) maNil))))) maNil))))) (msRet (mC (.bl false))) msNil)
    (msSeq (msPro 12 [0, 1, 2, 3, 4] (msFor (mIter (mVar 12)) (mgN 13) (msIf (mtOr (mtNot (mTru (mIsi "tuple" (mVar 13)))) (mtNot (mTru (mCall c_law_whole (maCons (mBin gIx (mVar 13) (mC (.int 0))) maNil))))) (msRet (mC (.bl false))) msNil)))
    (msSeq (msApp 12 (mTup (maCons (mC (.int 0)) (maCons (mC (.str [122])) (maCons (mVar 11) maNil)))))
    (msIf (mtNot (mTru (mCall c_law_truth (maCons (mMeth "Shade" "is_end" c_Shade_is_end (mG (mVar 0)) (maCons (mVar 11) maNil)) (maCons (mBin gEq (mVar 11) (mTup (maCons (mCallB gLen (maCons (mVar 1) maNil)) (maCons (mTup (maCons (mC (.str [46])) (maCons (mC (.str [46])) maNil))) maNil)))) maNil))))) (msRet (mC (.bl false))) msNil)))))))
    (msRet (mBin (gIs false) (mMeth "Shade" "is_end" c_Shade_is_end (mG (mVar 0)) (maCons (mTup (maCons (mCallB gLen (maCons (mVar 1) maNil)) (maCons (mTup (maCons (mC (.str [46])) (maCons (mC (.str [46])) maNil))) maNil))) maNil)) (mC (.bl true))))))))
def c_law_right : List D → Store → Res D := mFun 14 b_law_right
theorem ok_law_right {Pr : Program} {w : World} {K : Frag} {mg : Str → Option Value} {base : Heap} (D_law_right : Def K mg "_law_right" s_law_right)
    (B : Blt4 mg)
    (IC_Shade_Trail : IsC K mg "Shade" "Trail")
    (C_Shade_first_node : CanM Pr w K mg base "Shade" "first_node" ["self"] 1 (vSp K mg [.v] (rV K) c_Shade_first_node))
    (C_Shade_last_at : CanM Pr w K mg base "Shade" "last_at" ["self"] 1 (vSp K mg [.v] (rV K) c_Shade_last_at))
    (C_Shade_nodes_at : CanM Pr w K mg base "Shade" "nodes_at" ["self", "at"] 1 (vSp K mg [.v, .s] (rO K) c_Shade_nodes_at))
    (C_Shade_moves_from : CanM Pr w K mg base "Shade" "moves_from" ["self", "node"] 2 (vSp K mg [.v, .s] (rO K) c_Shade_moves_from))
    (C_law_due : Can Pr w K mg base "_law_due" ["_law_shown", "_law_inks", "_law_grounds", "_law_node"] 1 (vSp K mg [.s, .s, .s, .s] (rO K) c_law_due))
    (C_law_whole : Can Pr w K mg base "_law_whole" ["_law_thing"] 1 (vSp K mg [.s] (rV K) c_law_whole))
    (C_law_truth : Can Pr w K mg base "_law_truth" ["_law_found", "_law_due_here"] 1 (vSp K mg [.s, .s] (rV K) c_law_truth))
    (C_Shade_is_end : CanM Pr w K mg base "Shade" "is_end" ["self", "node"] 1 (vSp K mg [.v, .s] (rV K) c_Shade_is_end)) :
    Can Pr w K mg base "_law_right" ["_law_trail", "_law_shown", "_law_inks", "_law_grounds", "_law_picks"] 3 (vSp K mg [.s, .s, .s, .s, .s] (rV K) c_law_right) := by
  refine vdef (k := 2) (b := b_law_right) D_law_right sc_law_right (fun _ _ _ _ _ _ => bndS fun _ => bndS fun _ => bndS fun _ => bndS fun _ => bndS fun _ => bnd0 rfl) [.s, .s, .s, .s, .s] [.v, .v, .o, .v, .v, .v, .v, .o, .v] rV_ok (fun _ _ _ _ => Rp.non) (body := fun f cdv A outer s H E hr P => ?_)
  refine vss_cons ?_ ?_
  · refine vs_if ?_ ?_ vss_nil
    · refine ts_w ?_
      · refine tw_or ?_ ?_
        · refine ts_not ?_
          · refine ts_val ?_
            · refine se_oe ?_
              · refine oe_isC IC_Shade_Trail B.isinstance_ (ve_se (se_var 0))
        · refine tw_or ?_ ?_
          · refine ts_cmp (od_ne hr) ?_ ?_ (nomark _)
            · refine se_ve ?_
              · refine ve_meth0 C_Shade_first_node (hr.mono (by decide)) (ve_se (se_var 0))
            · refine se_ve ?_
              · refine ve_tup 2 ?_
                · refine ae_v ve_int ?_
                  · refine ae_v ?_ ae_nil
                    · refine ve_tup 2 ?_
                      · refine ae_v (ve_str [46]) ?_
                        · refine ae_v (ve_str [46]) ae_nil
          · refine tw_or1 ?_
            · refine ts_cmp (od_ne hr) ?_ ?_ (nomark _)
              · refine se_ve ?_
                · refine ve_meth0 C_Shade_last_at (hr.mono (by decide)) (ve_se (se_var 0))
              · refine se_oe ?_
                · refine oe_callB (ms := [.s]) (hv := bb_len) cd_len B.len_ ?_
                  · refine ae_s (se_var 1) ae_nil
    · refine vss_one (vs_retV ve_bl)
  · refine vss_cons ?_ ?_
    · refine vs_setV (i := 5) sc_law_right.nd rfl (by first | exact Or.inl rfl | exact Or.inr rfl) ?_
      · refine ve_oe (oe_lst 0 ae_nil)
    · refine vss_cons ?_ ?_
      · refine vs_for rfl ?_ (vg_name (i := 6) sc_law_right.nd rfl (by first | exact Or.inl rfl | exact Or.inr rfl)) ?_
        · refine vi_range1 B.range_ ?_
          · refine ae_s ?_ ae_nil
            · refine se_oe ?_
              · refine oe_bin od_add ?_ (se_ve ve_int)
                · refine se_oe ?_
                  · refine oe_callB (ms := [.s]) (hv := bb_len) cd_len B.len_ ?_
                    · refine ae_s (se_var 1) ae_nil
        · refine vss_cons ?_ ?_
          · refine vs_setO (i := 7) sc_law_right.nd rfl (by first | exact Or.inl rfl | exact Or.inr rfl) ?_
            · refine oe_meth C_Shade_nodes_at (hr.mono (by decide)) (ve_se (se_var 0)) ?_
              · refine ae_s (se_ve (ve_var 6)) ae_nil
          · refine vss_cons ?_ ?_
            · refine vs_setV (i := 8) sc_law_right.nd rfl (by first | exact Or.inl rfl | exact Or.inr rfl) ?_
              · refine ve_oe (oe_lst 0 ae_nil)
            · refine vss_cons ?_ ?_
              · refine vs_for rfl (vi_any (we_var 2)) (vg_name (i := 9) sc_law_right.nd rfl (by first | exact Or.inl rfl | exact Or.inr rfl)) ?_
                · refine vss_one ?_
                  · refine vs_setV (i := 8) sc_law_right.nd rfl (by first | exact Or.inl rfl | exact Or.inr rfl) ?_
                    · refine ve_oe ?_
                      · refine oe_bin od_add (se_ve (ve_var 8)) ?_
                        · refine se_oe ?_
                          · refine oe_comp (defScope s_law_right) ["_law_trail", "_law_shown", "_law_inks", "_law_grounds", "_law_picks", "_law_nodes", "_law_at", "_law_here", "_law_due_here", "_law_ink", "_law_pick", "_law_node", "_law_found", "_law_move"] ["_law_ground"] [6, 9] rfl (vic_any (se_var 3)) (fun _ _ _ _ P => ?_) (fun _ _ _ _ P => ?_) (fun _ _ _ _ P => ?_)
                            · exact vg_name (i := 0) (show (compN ["_law_trail", "_law_shown", "_law_inks", "_law_grounds", "_law_picks", "_law_nodes", "_law_at", "_law_here", "_law_due_here", "_law_ink", "_law_pick", "_law_node", "_law_found", "_law_move"] ["_law_ground"] [6, 9]).Nodup by decide +kernel) rfl (by first | exact Or.inl rfl | exact Or.inr rfl)
                            · exact vif_nil
                            · refine ve_tup 2 ?_
                              · refine ae_v (ve_var 1) ?_
                                · refine ae_v ?_ ae_nil
                                  · refine ve_tup 2 ?_
                                    · refine ae_v (ve_var 2) ?_
                                      · refine ae_v (ve_var 0) ae_nil
              · refine vss_cons ?_ ?_
                · refine vs_if ?_ ?_ vss_nil
                  · refine ts_w ?_
                    · refine tw_or ?_ ?_
                      · refine ts_not ?_
                        · refine ts_val ?_
                          · refine se_oe (oe_isi "list" (hb := bt_list) B.isinstance_ B.list_ (se_var 7))
                      · refine tw_or1 ?_
                        · refine ts_cmp (od_ne hr) ?_ ?_ (nomark _)
                          · refine se_oe ?_
                            · refine oe_callB (ms := [.s]) (hv := bb_sorted) (cd_sortN hr) B.sorted_ ?_
                              · refine ae_s (se_var 7) ae_nil
                          · refine se_oe ?_
                            · refine oe_callB (ms := [.s]) (hv := bb_sorted) (cd_sortN hr) B.sorted_ ?_
                              · refine ae_s (se_ve (ve_var 8)) ae_nil
                  · refine vss_one (vs_retV ve_bl)
                · refine vss_cons ?_ (vss_one (vs_clear 7))
                  · refine vs_setV (i := 5) sc_law_right.nd rfl (by first | exact Or.inl rfl | exact Or.inr rfl) ?_
                    · refine ve_oe ?_
                      · refine oe_bin od_add (se_ve (ve_var 5)) (se_ve (ve_var 8))
      · refine vss_cons ?_ ?_
        · refine vs_for rfl ?_ (vg_name (i := 10) sc_law_right.nd rfl (by first | exact Or.inl rfl | exact Or.inr rfl)) ?_
          · refine vi_any ?_
            · refine we_ve ?_
              · refine ve_oe ?_
                · refine oe_bin od_add (se_var 4) ?_
                  · refine se_oe ?_
                    · refine oe_lst 1 ?_
                      · refine ae_v ve_int ae_nil
          · refine vss_cons ?_ ?_
            · refine vs_setV (i := 11) sc_law_right.nd rfl (by first | exact Or.inl rfl | exact Or.inr rfl) ?_
              · refine ve_ix (se_ve (ve_var 5)) ?_
                · refine se_oe ?_
                  · refine oe_bin od_mod (se_ve (ve_var 10)) ?_
                    · refine se_oe ?_
                      · refine oe_callB (ms := [.s]) (hv := bb_len) cd_len B.len_ ?_
                        · refine ae_s (se_ve (ve_var 5)) ae_nil
            · refine vss_cons ?_ ?_
              · refine vs_setO (i := 12) sc_law_right.nd rfl (by first | exact Or.inl rfl | exact Or.inr rfl) ?_
                · refine oe_meth C_Shade_moves_from (hr.mono (by decide)) (ve_se (se_var 0)) ?_
                  · refine ae_s (se_ve (ve_var 11)) ae_nil
              · refine vss_cons ?_ ?_
                · refine vs_if ?_ ?_ vss_nil
                  · refine ts_w ?_
                    · refine tw_or ?_ ?_
                      · refine ts_not ?_
                        · refine ts_val ?_
                          · refine se_oe (oe_isi "list" (hb := bt_list) B.isinstance_ B.list_ (se_var 12))
                      · refine tw_or1 ?_
                        · refine ts_cmp (od_ne hr) ?_ ?_ (nomark _)
                          · refine se_oe ?_
                            · refine oe_callB (ms := [.s]) (hv := bb_sorted) (cd_sortN hr) B.sorted_ ?_
                              · refine ae_s (se_var 12) ae_nil
                          · refine se_oe ?_
                            · refine oe_callB (ms := [.s]) (hv := bb_sorted) (cd_sortN hr) B.sorted_ ?_
                              · refine ae_s ?_ ae_nil
                                · refine se_oe ?_
                                  · refine oe_call C_law_due (hr.mono (by decide)) ?_
                                    · refine ae_s (se_var 1) ?_
                                      · refine ae_s (se_var 2) ?_
                                        · refine ae_s (se_var 3) ?_
                                          · refine ae_s (se_ve (ve_var 11)) ae_nil
                  · refine vss_one (vs_retV ve_bl)
                · refine vss_cons ?_ ?_
                  · refine vs_pro (md' := [.s, .s, .s, .s, .s, .v, .v, .o, .v, .v, .v, .v, .s, .v]) 12 [0, 1, 2, 3, 4] rV_ok (fun P => ?_)
                    · refine vs_for rfl (vi_any (we_var 12)) (vg_name (i := 13) sc_law_right.nd rfl (by first | exact Or.inl rfl | exact Or.inr rfl)) ?_
                      · refine vss_one ?_
                        · refine vs_if ?_ ?_ vss_nil
                          · refine ts_w ?_
                            · refine tw_or ?_ ?_
                              · refine ts_not ?_
                                · refine ts_val ?_
                                  · refine se_oe ?_
                                    · refine oe_isi "tuple" (hb := bt_tuple) B.isinstance_ B.tuple_ (se_ve (ve_var 13))
                              · refine tw_or1 ?_
                                · refine ts_not ?_
                                  · refine ts_val ?_
                                    · refine se_ve ?_
                                      · refine ve_call C_law_whole (hr.mono (by decide)) ?_
                                        · refine ae_s ?_ ae_nil
                                          · refine se_ve ?_
                                            · refine ve_ix (se_ve (ve_var 13)) (se_ve ve_int)
                          · refine vss_one (vs_retV ve_bl)
                  · refine vss_cons ?_ ?_
                    · refine vs_append 12 ?_
                      · refine ve_tup 3 ?_
                        · refine ae_v ve_int ?_
                          · refine ae_v (ve_str [122]) ?_
                            · refine ae_v (ve_var 11) ae_nil
                    · refine vss_one ?_
                      · refine vs_if ?_ ?_ vss_nil
                        · refine ts_not ?_
                          · refine ts_val ?_
                            · refine se_ve ?_
                              · refine ve_call C_law_truth (hr.mono (by decide)) ?_
                                · refine ae_s ?_ ?_
                                  · refine se_ve ?_
                                    · refine ve_meth C_Shade_is_end (hr.mono (by decide)) (ve_se (se_var 0)) ?_
                                      · refine ae_s (se_ve (ve_var 11)) ae_nil
                                  · refine ae_s ?_ ae_nil
                                    · refine se_oe ?_
                                      · refine oe_cmp (od_eq hr) (se_ve (ve_var 11)) ?_ (nomark _)
                                        · refine se_ve ?_
                                          · refine ve_tup 2 ?_
                                            · refine ae_v ?_ ?_
                                              · refine ve_oe ?_
                                                · refine oe_callB (ms := [.s]) (hv := bb_len) cd_len B.len_ ?_
                                                  · refine ae_s (se_var 1) ae_nil
                                              · refine ae_v ?_ ae_nil
                                                · refine ve_tup 2 ?_
                                                  · refine ae_v (ve_str [46]) ?_
                                                    · refine ae_v (ve_str [46]) ae_nil
                        · refine vss_one (vs_retV ve_bl)
        · refine vss_one ?_
          · refine vs_retV ?_
            · refine ve_oe ?_
              · refine oe_cmp od_is ?_ (se_ve ve_bl) (nomark _)
                · refine se_ve ?_
                  · refine ve_meth C_Shade_is_end (hr.mono (by decide)) (ve_se (se_var 0)) ?_
                    · refine ae_s ?_ ae_nil
                      · refine se_ve ?_
                        · refine ve_tup 2 ?_
                          · refine ae_v ?_ ?_
                            · refine ve_oe ?_
                              · refine oe_callB (ms := [.s]) (hv := bb_len) cd_len B.len_ ?_
                                · refine ae_s (se_var 1) ae_nil
                            · refine ae_v ?_ ae_nil
                              · refine ve_tup 2 ?_
                                · refine ae_v (ve_str [46]) ?_
                                  · refine ae_v (ve_str [46]) ae_nil
abbrev s_law : Stmt := top 24
theorem sc_law : FnScope ["_law_script", "_law_shown", "_law_inks", "_law_grounds", "_law_picks", "_law_handed", "_law_trail", "_law_other"] ["_law_script"] (defScope s_law) := ⟨rfl, rfl, rfl, by decide +kernel, rfl, by decide +kernel, by decide +kernel⟩
def b_law : MS :=
    (msSeq (msSet 1 (mCall c_law_look (maCons (mVar 0) maNil)))
    (msSeq (msSet 2 (mCallB gRiseL (maCons (mBin gAdd (mComp (mIter (mVar 1)) 3 [] (mgN' 3 (mgsCons (mgN 0) (mgsCons (mgN 1) (mgsCons (mgN 2) mgsNil)))) mYes (mVar 1)) (mLst (maCons (mC (.str [46])) maNil))) maNil)))
    (msSeq (msSet 3 (mCallB gRiseL (maCons (mBin gAdd (mComp (mIter (mVar 1)) 3 [] (mgN' 3 (mgsCons (mgN 0) (mgsCons (mgN 1) (mgsCons (mgN 2) mgsNil)))) mYes (mVar 2)) (mLst (maCons (mC (.str [46])) maNil))) maNil)))
    (msSeq (msSet 4 (mComp (mIter (mSl (mVar 0) (moS (mC (.int 42))) (moS (mC (.int 62))))) 1 [] (mgN 0) mYes (mCall c_law_mix (maCons (mVar 0) (maCons (mC (.int 10)) maNil)))))
    (msSeq (msSet 5 (mCallB gList (maCons (mVar 1) maNil)))
    (msSeq (msSet 6 (mMake "Shade" c_Shade___init__ (maCons (mVar 5) maNil)))
    (msSeq (msApp 5 (mTup (maCons (mC (.str [122])) (maCons (mC (.str [104])) (maCons (mC (.str [104])) maNil)))))
    (msSeq (msSet 7 (mMake "Shade" c_Shade___init__ (maCons (mLst (maCons (mTup (maCons (mC (.str [121])) (maCons (mC (.str [97])) (maCons (mC (.str [98])) maNil)))) maNil)) maNil)))
    (msSeq (msIf (mtNot (mTru (mCall c_law_right (maCons (mVar 6) (maCons (mVar 1) (maCons (mVar 2) (maCons (mVar 3) (maCons (mVar 4) maNil)))))))) (msRet (mC (.bl false))) msNil)
    (msSeq (msIf (mtNot (mTru (mCall c_law_right (maCons (mVar 7) (maCons (mLst (maCons (mTup (maCons (mC (.str [121])) (maCons (mC (.str [97])) (maCons (mC (.str [98])) maNil)))) maNil)) (maCons (mLst (maCons (mC (.str [46])) (maCons (mC (.str [97])) maNil))) (maCons (mLst (maCons (mC (.str [46])) (maCons (mC (.str [98])) maNil))) (maCons (mVar 4) maNil)))))))) (msRet (mC (.bl false))) msNil)
    (msRet (mCall c_law_right (maCons (mVar 6) (maCons (mVar 1) (maCons (mVar 2) (maCons (mVar 3) (maCons (mVar 4) maNil)))))))))))))))))
def c_law : List D → Store → Res D := mFun 8 b_law
theorem ok_law {Pr : Program} {w : World} {K : Frag} {mg : Str → Option Value} {base : Heap} (D_law : Def K mg "law" s_law)
    (B : Blt4 mg)
    (C_law_look : Can Pr w K mg base "_law_look" ["_law_script"] 2 (vSp K mg [.s] (rV K) c_law_look))
    (C_law_mix : Can Pr w K mg base "_law_mix" ["_law_cell", "_law_k"] 1 (vSp K mg [.s, .s] (rV K) c_law_mix))
    (C_Shade___init__ : CanC Pr w K mg base "Shade" ["self", "look"] 3 (vSp K mg [.v, .s] (rV K) c_Shade___init__))
    (C_law_right : Can Pr w K mg base "_law_right" ["_law_trail", "_law_shown", "_law_inks", "_law_grounds", "_law_picks"] 3 (vSp K mg [.s, .s, .s, .s, .s] (rV K) c_law_right)) :
    Can Pr w K mg base "law" ["_law_script"] 5 (vSp K mg [.s] (rV K) c_law) := by
  refine vdef (k := 4) (b := b_law) D_law sc_law (fun _ _ _ _ _ _ => bndS fun _ => bnd0 rfl) [.s] [.v, .v, .v, .v, .o, .v, .v] rV_ok (fun _ _ _ _ => Rp.non) (body := fun f cdv A outer s H E hr P => ?_)
  refine vss_cons ?_ ?_
  · refine vs_setV (i := 1) sc_law.nd rfl (by first | exact Or.inl rfl | exact Or.inr rfl) ?_
    · refine ve_call C_law_look (hr.mono (by decide)) ?_
      · refine ae_s (se_var 0) ae_nil
  · refine vss_cons ?_ ?_
    · refine vs_setV (i := 2) sc_law.nd rfl (by first | exact Or.inl rfl | exact Or.inr rfl) ?_
      · refine ve_oe ?_
        · refine oe_rise (ms := [.s]) rfl B.sorted_ B.set_ ?_
          · refine ae_s ?_ ae_nil
            · refine se_oe ?_
              · refine oe_bin od_add ?_ ?_
                · refine se_oe ?_
                  · refine oe_comp (defScope s_law) ["_law_script", "_law_shown", "_law_inks", "_law_grounds", "_law_picks", "_law_handed", "_law_trail", "_law_other"] ["_law_sign", "_law_ink", "_law_ground"] [] rfl ?_ (fun _ _ _ _ P => ?_) (fun _ _ _ _ P => ?_) (fun _ _ _ _ P => ?_)
                    · refine vic_any (se_ve (ve_var 1))
                    · refine vg_tup 3 rfl ?_
                      · refine vgs_cons (vg_name (i := 0) (show (compN ["_law_script", "_law_shown", "_law_inks", "_law_grounds", "_law_picks", "_law_handed", "_law_trail", "_law_other"] ["_law_sign", "_law_ink", "_law_ground"] []).Nodup by decide +kernel) rfl (by first | exact Or.inl rfl | exact Or.inr rfl)) ?_
                        · refine vgs_cons (vg_name (i := 1) (show (compN ["_law_script", "_law_shown", "_law_inks", "_law_grounds", "_law_picks", "_law_handed", "_law_trail", "_law_other"] ["_law_sign", "_law_ink", "_law_ground"] []).Nodup by decide +kernel) rfl (by first | exact Or.inl rfl | exact Or.inr rfl)) ?_
                          · refine vgs_cons (vg_name (i := 2) (show (compN ["_law_script", "_law_shown", "_law_inks", "_law_grounds", "_law_picks", "_law_handed", "_law_trail", "_law_other"] ["_law_sign", "_law_ink", "_law_ground"] []).Nodup by decide +kernel) rfl (by first | exact Or.inl rfl | exact Or.inr rfl)) vgs_nil
                    · exact vif_nil
                    · exact ve_var 1
                · refine se_oe ?_
                  · refine oe_lst 1 ?_
                    · refine ae_v (ve_str [46]) ae_nil
    · refine vss_cons ?_ ?_
      · refine vs_setV (i := 3) sc_law.nd rfl (by first | exact Or.inl rfl | exact Or.inr rfl) ?_
        · refine ve_oe ?_
          · refine oe_rise (ms := [.s]) rfl B.sorted_ B.set_ ?_
            · refine ae_s ?_ ae_nil
              · refine se_oe ?_
                · refine oe_bin od_add ?_ ?_
                  · refine se_oe ?_
                    · refine oe_comp (defScope s_law) ["_law_script", "_law_shown", "_law_inks", "_law_grounds", "_law_picks", "_law_handed", "_law_trail", "_law_other"] ["_law_sign", "_law_ink", "_law_ground"] [] rfl ?_ (fun _ _ _ _ P => ?_) (fun _ _ _ _ P => ?_) (fun _ _ _ _ P => ?_)
                      · refine vic_any (se_ve (ve_var 1))
                      · refine vg_tup 3 rfl ?_
                        · refine vgs_cons (vg_name (i := 0) (show (compN ["_law_script", "_law_shown", "_law_inks", "_law_grounds", "_law_picks", "_law_handed", "_law_trail", "_law_other"] ["_law_sign", "_law_ink", "_law_ground"] []).Nodup by decide +kernel) rfl (by first | exact Or.inl rfl | exact Or.inr rfl)) ?_
                          · refine vgs_cons (vg_name (i := 1) (show (compN ["_law_script", "_law_shown", "_law_inks", "_law_grounds", "_law_picks", "_law_handed", "_law_trail", "_law_other"] ["_law_sign", "_law_ink", "_law_ground"] []).Nodup by decide +kernel) rfl (by first | exact Or.inl rfl | exact Or.inr rfl)) ?_
                            · refine vgs_cons (vg_name (i := 2) (show (compN ["_law_script", "_law_shown", "_law_inks", "_law_grounds", "_law_picks", "_law_handed", "_law_trail", "_law_other"] ["_law_sign", "_law_ink", "_law_ground"] []).Nodup by decide +kernel) rfl (by first | exact Or.inl rfl | exact Or.inr rfl)) vgs_nil
                      · exact vif_nil
                      · exact ve_var 2
                  · refine se_oe ?_
                    · refine oe_lst 1 ?_
                      · refine ae_v (ve_str [46]) ae_nil
      · refine vss_cons ?_ ?_
        · refine vs_setCV (i := 4) (defScope s_law) ["_law_script", "_law_shown", "_law_inks", "_law_grounds", "_law_picks", "_law_handed", "_law_trail", "_law_other"] ["_law_cell"] [] sc_law.nd rfl (by first | exact Or.inl rfl | exact Or.inr rfl) rfl ?_ (fun _ _ _ _ P => ?_) (fun _ _ _ _ P => ?_) (fun _ _ _ _ P => ?_)
          · refine vic_any ?_
            · refine se_oe ?_
              · refine oe_slice (se_var 0) (vo_some ve_int) (vo_some ve_int)
          · exact vg_name (i := 0) (show (compN ["_law_script", "_law_shown", "_law_inks", "_law_grounds", "_law_picks", "_law_handed", "_law_trail", "_law_other"] ["_law_cell"] []).Nodup by decide +kernel) rfl (by first | exact Or.inl rfl | exact Or.inr rfl)
          · exact vif_nil
          · refine ve_call C_law_mix (hr.mono (by decide)) ?_
            · refine ae_s (se_ve (ve_var 0)) ?_
              · refine ae_s (se_ve ve_int) ae_nil
        · refine vss_cons ?_ ?_
          · refine vs_setO (i := 5) sc_law.nd rfl (by first | exact Or.inl rfl | exact Or.inr rfl) ?_
            · refine oe_callT (ms := [.s]) (hv := bt_list) cd_list B.list_ ?_
              · refine ae_s (se_ve (ve_var 1)) ae_nil
          · refine vss_cons ?_ ?_
            · refine vs_setV (i := 6) sc_law.nd rfl (by first | exact Or.inl rfl | exact Or.inr rfl) ?_
              · refine ve_make C_Shade___init__ (hr.mono (by decide)) ?_
                · refine ae_s (se_var 5) ae_nil
            · refine vss_cons ?_ ?_
              · refine vs_append 5 ?_
                · refine ve_tup 3 ?_
                  · refine ae_v (ve_str [122]) ?_
                    · refine ae_v (ve_str [104]) ?_
                      · refine ae_v (ve_str [104]) ae_nil
              · refine vss_cons ?_ ?_
                · refine vs_setV (i := 7) sc_law.nd rfl (by first | exact Or.inl rfl | exact Or.inr rfl) ?_
                  · refine ve_make C_Shade___init__ (hr.mono (by decide)) ?_
                    · refine ae_s ?_ ae_nil
                      · refine se_oe ?_
                        · refine oe_lst 1 ?_
                          · refine ae_v ?_ ae_nil
                            · refine ve_tup 3 ?_
                              · refine ae_v (ve_str [121]) ?_
                                · refine ae_v (ve_str [97]) ?_
                                  · refine ae_v (ve_str [98]) ae_nil
                · refine vss_cons ?_ ?_
                  · refine vs_if ?_ ?_ vss_nil
                    · refine ts_not ?_
                      · refine ts_val ?_
                        · refine se_ve ?_
                          · refine ve_call C_law_right (hr.mono (by decide)) ?_
                            · refine ae_s (se_ve (ve_var 6)) ?_
                              · refine ae_s (se_ve (ve_var 1)) ?_
                                · refine ae_s (se_ve (ve_var 2)) ?_
                                  · refine ae_s (se_ve (ve_var 3)) ?_
                                    · refine ae_s (se_ve (ve_var 4)) ae_nil
                    · refine vss_one (vs_retV ve_bl)
                  · refine vss_cons ?_ ?_
                    · refine vs_if ?_ ?_ vss_nil
                      · refine ts_not ?_
                        · refine ts_val ?_
                          · refine se_ve ?_
                            · refine ve_call C_law_right (hr.mono (by decide)) ?_
                              · refine ae_s (se_ve (ve_var 7)) ?_
                                · refine ae_s ?_ ?_
                                  · refine se_oe ?_
                                    · refine oe_lst 1 ?_
                                      · refine ae_v ?_ ae_nil
                                        · refine ve_tup 3 ?_
                                          · refine ae_v (ve_str [121]) ?_
                                            · refine ae_v (ve_str [97]) ?_
                                              · refine ae_v (ve_str [98]) ae_nil
                                  · refine ae_s ?_ ?_
                                    · refine se_oe ?_
                                      · refine oe_lst 2 ?_
                                        · refine ae_v (ve_str [46]) ?_
                                          · refine ae_v (ve_str [97]) ae_nil
                                    · refine ae_s ?_ ?_
                                      · refine se_oe ?_
                                        · refine oe_lst 2 ?_
                                          · refine ae_v (ve_str [46]) ?_
                                            · refine ae_v (ve_str [98]) ae_nil
                                      · refine ae_s (se_ve (ve_var 4)) ae_nil
                      · refine vss_one (vs_retV ve_bl)
                    · refine vss_one ?_
                      · refine vs_retV ?_
                        · refine ve_call C_law_right (hr.mono (by decide)) ?_
                          · refine ae_s (se_ve (ve_var 6)) ?_
                            · refine ae_s (se_ve (ve_var 1)) ?_
                              · refine ae_s (se_ve (ve_var 2)) ?_
                                · refine ae_s (se_ve (ve_var 3)) ?_
                                  · refine ae_s (se_ve (ve_var 4)) ae_nil
theorem bin_ok {g : D → D → Option D} {a b : L2.M D} {ρ : DEnv} {O : Store} {x y z : D} (ha : a ρ O = .ok x O) (hb : b ρ O = .ok y O) (h : g (deref O x) (deref O y) = some z) : mBin g a b ρ O = .ok z O := by
  rw [m_bin, ha, bind_ok', hb, bind_ok', h, ofO_some]
theorem ma1 {a : L2.M D} {ρ : DEnv} {O : Store} {x : D} (h : a ρ O = .ok x O) : maCons a maNil ρ O = .ok [x] O := by
  rw [ma_cons, h, bind_ok', ma_nil, bind_ok']
theorem maS {a : L2.M D} {r : L2.M (List D)} {ρ : DEnv} {O : Store} {x : D} {xs : List D} (h : a ρ O = .ok x O) (h2 : r ρ O = .ok xs O) : maCons a r ρ O = .ok (x :: xs) O := by
  rw [ma_cons, h, bind_ok', h2, bind_ok']
theorem tupA {m : L2.M (List D)} {ρ : DEnv} {O : Store} {xs : List D} (h : m ρ O = .ok xs O) (hl : xs.length ≤ 1000000) : mTup m ρ O = .ok (.tup xs) O := by
  rw [m_tup, h, bind_ok', if_pos hl]
theorem lstA {m : L2.M (List D)} {ρ : DEnv} {O : Store} {xs : List D} (h : m ρ O = .ok xs O) (hl : xs.length ≤ 1000000) : mLst m ρ O = .ok (.lst xs) O := by
  rw [m_lst, h, bind_ok', if_pos hl]
theorem callB_ok {g : List D → Option D} {m : L2.M (List D)} {ρ : DEnv} {O : Store} {xs : List D} {z : D} (h : m ρ O = .ok xs O) (hg : g (xs.map (deref O)) = some z) : mCallB g m ρ O = .ok z O := by
  rw [m_callB, h, bind_ok', hg, ofO_some]
theorem app_ok {i : Nat} {m : L2.M D} {ρ : DEnv} {O : Store} {d : D} {ds : List D} (hm : m ρ O = .ok d O) (h : ρ[i]? = some (some (.lst ds))) (hl : ds.length < 1000000) : msApp i m ρ O = .nx (ρ.set i (some (.lst (ds ++ [d])))) O := by
  rw [ms_app, hm, apF_ok h hl]
theorem set_ok {i : Nat} {m : L2.M D} {ρ : DEnv} {O : Store} {d : D} (h : m ρ O = .ok d O) : msSet i m ρ O = .nx (ρ.set i (some d)) O := by
  rw [ms_set, h, setF_ok]
theorem call_ok {c : List D → Store → Res D} {ma : L2.M (List D)} {ρ : DEnv} {O : Store} {ds : List D} (h : ma ρ O = .ok ds O) : mCall c ma ρ O = c ds O := by
  rw [m_call, h, bind_ok']
theorem test_ok {m : L2.M D} {ρ : DEnv} {O : Store} {b : Bool} (h : m ρ O = .ok (.bl b) O) : mTest m ρ O = .ok b O := by
  rw [m_test, h, bind_ok', teF_bl]
theorem if_yes {t : L2.M Bool} {a b : MS} {ρ : DEnv} {O : Store} (h : t ρ O = .ok true O) : msIf t a b ρ O = a ρ O := by
  rw [ms_if, h, ifF_ok, if_pos rfl]
theorem if_no {t : L2.M Bool} {a b : MS} {ρ : DEnv} {O : Store} (h : t ρ O = .ok false O) : msIf t a b ρ O = b ρ O := by
  rw [ms_if, h, ifF_ok, if_neg Bool.false_ne_true]
theorem len_ok {m : L2.M D} {ρ : DEnv} {O : Store} {l : List D} (h : m ρ O = .ok (.lst l) O) : mCallB gLen (maCons m maNil) ρ O = .ok (.int (l.length : Int)) O := callB_ok (ma1 h) rfl
theorem rng_ok {m : L2.M D} {ρ : DEnv} {O : Store} {n : Nat} (h : m ρ O = .ok (.int (n : Int)) O) (hn : n ≤ 1000000) : mRng1 (maCons m maNil) ρ O = .ok (rangeD 0 n) O := by
  rw [m_rng1, ma1 h, bind_ok']
  show (if (n : Int) ≤ 1000000000 ∧ -1000000000 ≤ (n : Int) then Res.ok (rangeD 0 (n : Int).toNat) O else .no) = _
  rw [if_pos ⟨by omega, by omega⟩, Int.toNat_natCast]
theorem mod_ok {a b : L2.M D} {ρ : DEnv} {O : Store} {i j : Int} (ha : a ρ O = .ok (.int i) O) (hb : b ρ O = .ok (.int j) O) (hj : 0 < j) : mBin gMod a b ρ O = .ok (.int (i % j)) O := bin_ok ha hb (by rw [deref_int, deref_int, gMod_i, if_pos hj])
theorem add_i {a b : L2.M D} {ρ : DEnv} {O : Store} {i j : Int} (ha : a ρ O = .ok (.int i) O) (hb : b ρ O = .ok (.int j) O) : mBin gAdd a b ρ O = .ok (.int (i + j)) O := bin_ok ha hb rfl
theorem lt_ok {a b : L2.M D} {ρ : DEnv} {O : Store} {i j : Int} (ha : a ρ O = .ok (.int i) O) (hb : b ρ O = .ok (.int j) O) : mTest (mBin gLt a b) ρ O = .ok (decide (i < j)) O := test_ok (bin_ok ha hb rfl)
theorem eq_ok {a b : L2.M D} {ρ : DEnv} {O : Store} {i j : Int} (ha : a ρ O = .ok (.int i) O) (hb : b ρ O = .ok (.int j) O) : mTest (mBin gEq a b) ρ O = .ok (decide (i = j)) O := test_ok (bin_ok ha hb rfl)
theorem fld_put {cs : List Str} {f c : Str} {mo mv : L2.M D} {ρ : DEnv} {O O1 : Store} {n : Nat} {d : D} {fs : List (Str × D)} (hv : mv ρ O = .ok d O1) (ho : mo ρ O1 = .ok (.ob n) O1) (hO : O1[n]? = some (.ins c fs)) (hc : c ∈ cs) (hl : fs.length < 900) :
    msFld cs f mo mv ρ O = .nx ρ (O1.set n (.ins c (putD f d fs))) := by
  rw [ms_fld, hv, sfF_ok, ho]
  unfold puF
  dsimp only
  rw [hO]
  dsimp only
  rw [if_pos ⟨hc, hl⟩]
theorem fld_get {cs : List Str} {f c : Str} {m : L2.M D} {ρ : DEnv} {O : Store} {n : Nat} {y : D} {fs : List (Str × D)} (ho : m ρ O = .ok (.ob n) O) (hO : O[n]? = some (.ins c fs)) (hc : c ∈ cs) (hy : fs.lookup f = some y) :
    mFld cs f m ρ O = .ok y O := by
  rw [m_fld, ho, bind_ok']
  unfold fldF
  dsimp only
  rw [hO]
  dsimp only
  rw [if_pos hc, hy]
theorem meth_ok {c m : Str} {cf : List D → Store → Res D} {mo : L2.M D} {ma : L2.M (List D)} {ρ : DEnv} {O : Store} {n : Nat} {ds : List D} {fs : List (Str × D)} (ho : mo ρ O = .ok (.ob n) O) (hO : O[n]? = some (.ins c fs)) (hm : (fs.lookup m).isNone = true) (ha : ma ρ O = .ok ds O) :
    mMeth c m cf mo ma ρ O = cf (.ob n :: ds) O := by
  rw [m_meth, ho, bind_ok']
  unfold meF
  dsimp only
  rw [hO]
  dsimp only
  rw [if_pos ⟨rfl, hm⟩, ha, bind_ok']
theorem snoc_at {O : Store} {o : Ob} : (O ++ [o])[O.length]? = some o := by
  rw [List.getElem?_append_right (Nat.le_refl _), Nat.sub_self]; rfl
theorem snoc_set {O : Store} {o o' : Ob} : (O ++ [o]).set O.length o' = O ++ [o'] := by
  rw [List.set_append_right _ _ (Nat.le_refl _), Nat.sub_self]; rfl
theorem it_ok {m : L2.M D} {ρ : DEnv} {O : Store} {l : List D} (h : m ρ O = .ok (.lst l) O) : mIter m ρ O = .ok l O := by
  rw [m_iter, h, bind_ok', iterD_lst, itF_some]
theorem comp_ok {m : L2.M (List D)} {own : Nat} {cap : List Nat} {g : MG} {t : L2.M Bool} {e : L2.M D} {ρ ρ0 : DEnv} {O O1 : Store} {ds ys : List D} (h : m ρ O = .ok ds O) (hl : ds.length ≤ 1000000) (h0 : cEnv own cap ρ = ρ0) (hc : cloop g t e ds ρ0 O [] = .ok ys O1) : mComp m own cap g t e ρ O = .ok (.lst ys) O1 := by
  rw [m_comp, h, bind_ok', if_pos hl, h0, hc, bind_ok']
theorem list_ok {m : L2.M D} {ρ : DEnv} {O : Store} {d : D} {l : List D} (h : m ρ O = .ok d O) (hd : deref O d = .lst l) : mCallB gList (maCons m maNil) ρ O = .ok (.lst l) O := by
  rw [m_callB, ma1 h, bind_ok', List.map_cons, List.map_nil, hd, gList_l, ofO_some]
theorem not_no {m : L2.M D} {s : MS} {ρ : DEnv} {O : Store} (h : m ρ O = .ok (.bl true) O) : msIf (mtNot (mTru m)) s msNil ρ O = .nx ρ O := by
  rw [ms_if, mt_not, m_tru, h, bind_ok', deref_bl, truD_bl, ofB_some, bind_ok', ifF_ok, if_neg (by decide)]
  rfl
theorem nt_no {m : L2.M D} {ρ : DEnv} {O : Store} (h : m ρ O = .ok (.bl true) O) : mtNot (mTru m) ρ O = .ok false O := by
  rw [mt_not, m_tru, h, bind_ok', deref_bl, truD_bl, ofB_some, bind_ok']
  rfl
theorem or_f {t1 t2 : L2.M Bool} {ρ : DEnv} {O : Store} (h1 : t1 ρ O = .ok false O) (h2 : t2 ρ O = .ok false O) : mtOr t1 t2 ρ O = .ok false O := by
  rw [mt_or, h1, bind_ok', if_neg Bool.false_ne_true, h2]
theorem set_ok' {i : Nat} {m : L2.M D} {ρ : DEnv} {O O1 : Store} {d : D} (h : m ρ O = .ok d O1) : msSet i m ρ O = .nx (ρ.set i (some d)) O1 := by
  rw [ms_set, h, setF_ok]
theorem rngX {n i : Nat} {d : D} (h : (rangeD 0 n)[i]? = some d) : i < n ∧ d = .int (i : Int) := by
  have hi : i < n := by
    have := (List.getElem?_eq_some_iff.mp h).1
    rwa [rangeD_len] at this
  have e : rangeD 0 n = (List.range n).map fun i : Nat => D.int ((i : Nat) : Int) := by unfold rangeD; simp
  rw [e, List.getElem?_map, List.getElem?_range hi] at h
  cases h
  exact ⟨hi, rfl⟩
theorem tru_f {m : L2.M D} {ρ : DEnv} {O : Store} {b : Bool} (h : m ρ O = .ok (.bl b) O) : mTru m ρ O = .ok b O := by
  rw [m_tru, h, bind_ok', deref_bl, truD_bl, ofB_some]
theorem isi_ok {m : L2.M D} {ρ : DEnv} {O : Store} {d : D} {n t : String} (h : m ρ O = .ok d O) (ht : tyD (deref O d) = some t) : mIsi n m ρ O = .ok (.bl (isTy t n)) O := by
  rw [m_isi, h, bind_ok', ht, isF_some]
theorem ret_okB {m : L2.M D} {ρ : DEnv} {O O1 : Store} {d : D} (h : m ρ O = .ok d O1) : msRet m ρ O = .rt d O1 := by rw [ms_ret, h]; rfl
theorem mx_ok {a b : L2.M D} {ρ : DEnv} {O : Store} {c k : Int} (ha : a ρ O = .ok (.int c) O) (hb : b ρ O = .ok (.int k) O) (h0 : 0 ≤ k) (h1 : k ≤ 1000000) : mCall c_law_mix (maCons a (maCons b maNil)) ρ O = .ok (.int (mix c k)) O := by
  rw [call_ok (maS ha (ma1 hb))]
  exact mix_eq c k h0 h1 O
def KIn (N : Nat) {α : Type} (Pz : α → Prop) : W.KasT α → Prop
  | .ret a => Pz a
  | .ask i j k => i < N ∧ j < N ∧ ∀ b, KIn N Pz (k b)
theorem KIn.bind {N : Nat} {α β : Type} {Pz : α → Prop} {Qz : β → Prop} {f : α → W.KasT β} (hf : ∀ a, Pz a → KIn N Qz (f a)) : ∀ t : W.KasT α, KIn N Pz t → KIn N Qz (t.bind f)
  | .ret a, h => hf a h
  | .ask i j k, h => ⟨h.1, h.2.1, fun b => KIn.bind hf (k b) (h.2.2 b)⟩
theorem KIn.tot {N : Nat} {α : Type} {Pz : α → Prop} {cmp : Nat → Nat → Option Bool} (hc : ∀ i j, i < N → j < N → ∃ b, cmp i j = some b) : ∀ t : W.KasT α, KIn N Pz t → ∃ r, kasO cmp t = some r ∧ Pz r
  | .ret a, h => ⟨a, rfl, h⟩
  | .ask i j k, h => by
    obtain ⟨b, e⟩ := hc i j h.1 h.2.1
    obtain ⟨r, e2, hr⟩ := KIn.tot hc (k b) (h.2.2 b)
    refine ⟨r, ?_, hr⟩
    unfold kasO
    rw [e]
    exact e2
def AL (N : Nat) (p : Array Nat) : Prop := ∀ x ∈ p, x < N
theorem AL.get {N : Nat} {p : Array Nat} (h : AL N p) (h0 : 0 < N) (i : Nat) : p.getD i 0 < N := by
  rw [Array.getD_eq_getD_getElem?]
  cases e : p[i]? with
  | none => exact h0
  | some x => exact h x (Array.mem_of_getElem? e)
theorem AL.rev {N : Nat} {p : Array Nat} (h : AL N p) (i j : Nat) : AL N (W.kas_rev p i j) := fun x hx => h x ((PyProof.Rows.mirror_perm p i j _).mem_iff.mp hx)
theorem AL.bub {N : Nat} {p : Array Nat} (h : AL N p) (i j : Nat) : AL N (PyProof.Rows.bubble p i j) := fun x hx => h x ((PyProof.Rows.bubble_perm p i j).mem_iff.mp hx)
theorem in_asc {N : Nat} {p : Array Nat} (h0 : 0 < N) (h : AL N p) : ∀ f n, KIn N (fun _ => True) (W.kas_asc p f n)
  | 0, n => trivial
  | f + 1, n => ⟨h.get h0 _, h.get h0 _, fun b => by
    cases b with
    | true => (first | rw [if_pos rfl] | (dsimp only; rw [if_pos rfl])); exact trivial
    | false => (first | rw [if_neg Bool.false_ne_true] | (dsimp only; rw [if_neg Bool.false_ne_true])); exact in_asc h0 h f (n + 1)⟩
theorem in_desc {N : Nat} (h0 : 0 < N) : ∀ f p n q, AL N p → KIn N (fun r : Array Nat × Nat × Nat => AL N r.1) (W.kas_desc f p n q)
  | 0, p, n, q, h => h
  | f + 1, p, n, q, h => ⟨h.get h0 _, h.get h0 _, fun b => by
    cases b with
    | true =>
      (first | rw [if_pos rfl] | (dsimp only; rw [if_pos rfl]))
      split
      · exact in_desc h0 f _ _ _ (h.rev _ _)
      · exact in_desc h0 f _ _ _ h
    | false =>
      (first | rw [if_neg Bool.false_ne_true] | (dsimp only; rw [if_neg Bool.false_ne_true]))
      refine ⟨h.get h0 _, h.get h0 _, fun c => ?_⟩
      cases c with
      | true => (first | rw [if_pos rfl] | (dsimp only; rw [if_pos rfl])); exact h
      | false => (first | rw [if_neg Bool.false_ne_true] | (dsimp only; rw [if_neg Bool.false_ne_true])); exact in_desc h0 f _ _ _ h⟩
theorem in_tail3 {N : Nat} (h0 : 0 < N) (n m : Nat) (p : Array Nat) (h : AL N p) : KIn N (fun r : Nat × Array Nat => AL N r.2) (W.kas_tail3 n m p) := by
  unfold W.kas_tail3
  refine KIn.bind (fun a _ => ?_) _ (in_asc h0 (h.rev 0 n) _ _)
  exact h.rev 0 n
theorem in_dp {N : Nat} (h0 : 0 < N) (n m : Nat) (p : Array Nat) (h : AL N p) : KIn N (fun r : Nat × Array Nat => AL N r.2) (W.kas_descPart n m p) :=
  KIn.bind (fun r hr => by
    split
    · exact in_tail3 h0 _ _ _ (AL.rev hr _ _)
    · exact in_tail3 h0 _ _ _ hr) _ (in_desc h0 _ _ _ _ h)
theorem in_count {N : Nat} (h0 : 0 < N) (m : Nat) (p : Array Nat) (h : AL N p) : KIn N (fun r : Nat × Array Nat => AL N r.2) (W.kas_count m p) :=
  KIn.bind (fun n _ => by
    split
    · exact h
    · split
      · refine ⟨h.get h0 _, h.get h0 _, fun b => ?_⟩
        cases b with
        | true => (first | rw [if_pos rfl] | (dsimp only; rw [if_pos rfl])); exact h
        | false => (first | rw [if_neg Bool.false_ne_true] | (dsimp only; rw [if_neg Bool.false_ne_true])); exact in_dp h0 _ _ _ (h.rev _ _)
      · exact in_dp h0 _ _ _ h) _ (in_asc h0 h _ _)
theorem in_place {N : Nat} {p : Array Nat} (h0 : 0 < N) (h : AL N p) (k : Nat) : ∀ f l r, KIn N (fun _ => True) (W.kas_place p k f l r)
  | 0, l, r => trivial
  | f + 1, l, r => by
    unfold W.kas_place
    split
    · exact trivial
    · refine ⟨h.get h0 _, h.get h0 _, fun b => ?_⟩
      cases b with
      | true => (first | rw [if_pos rfl] | (dsimp only; rw [if_pos rfl])); exact in_place h0 h k f _ _
      | false => (first | rw [if_neg Bool.false_ne_true] | (dsimp only; rw [if_neg Bool.false_ne_true])); exact in_place h0 h k f _ _
theorem in_bin {N : Nat} (h0 : 0 < N) : ∀ f p k, AL N p → KIn N (AL N) (W.kas_bin f p k)
  | 0, p, k, h => h
  | f + 1, p, k, h => KIn.bind (fun l _ => in_bin h0 f _ _ (h.bub _ _)) _ (in_place h0 h k _ _ _)
theorem in_sort {N : Nat} (h0 : 0 < N) : KIn N (AL N) (W.kas_sort N) := by
  have h : AL N (List.toArray (List.range N)) := fun x hx => List.mem_range.mp (by simpa using hx)
  refine KIn.bind (fun r hr => ?_) _ (in_count h0 N _ h)
  split
  · exact in_bin h0 _ _ _ hr
  · exact hr
theorem srt_tot {ds : List D} (h64 : ds.length < 64) (ht : ds.all isTI = true) (hc : ∀ d ∈ ds, ∀ e ∈ ds, ∃ xs ys b, d = .tup xs ∧ e = .tup ys ∧ ltN xs ys = some b) : ∃ r : List D, gSortN [.lst ds] = some (.lst r) ∧ ∀ x ∈ r, x ∈ ds := by
  unfold gSortN
  dsimp only
  by_cases h2 : ds.length < 2
  · rw [if_pos h2]
    exact ⟨ds, rfl, fun x hx => hx⟩
  · rw [if_neg h2, if_pos ⟨h64, ht⟩]
    obtain ⟨p, e, hp⟩ := KIn.tot (cmp := cmpN ds) (fun i j hi hj => by
      obtain ⟨xs, ys, b, e1, e2, e3⟩ := hc ds[i] (List.getElem_mem hi) ds[j] (List.getElem_mem hj)
      refine ⟨b, ?_⟩
      unfold cmpN
      rw [List.getElem?_eq_getElem hi, List.getElem?_eq_getElem hj, e1, e2]
      exact e3) _ (in_sort (N := ds.length) (by omega))
    rw [e, Option.map_some]
    refine ⟨_, rfl, fun x hx => ?_⟩
    obtain ⟨i, hi, rfl⟩ := List.mem_map.mp hx
    have hlt : i < ds.length := hp i (by simpa using hi)
    rw [List.getD_eq_getElem?_getD, List.getElem?_eq_getElem hlt]
    exact List.getElem_mem hlt
def st (c : Nat) : D := .str [c]
def kz (ks : List Nat) : List (List Nat) := ks.map fun c => [c]
theorem kz_mem {ks : List Nat} {c : Nat} : [c] ∈ kz ks ↔ c ∈ ks := by simp [kz]
theorem strs_kz : ∀ ks : List Nat, strsT (ks.map st) = some (kz ks)
  | [] => rfl
  | c :: ks => by
    show (strsT (ks.map st)).map ([c] :: ·) = _
    rw [strs_kz ks]
    rfl
def cset (ks : List Nat) : List Nat := (riseT (kz ks)).map fun l => l.headD 0
theorem kz_one {ks : List Nat} {l : List Nat} (h : l ∈ kz ks) : ∃ c, l = [c] ∧ c ∈ ks := by
  obtain ⟨c, hc, rfl⟩ := List.mem_map.mp h
  exact ⟨c, rfl, hc⟩
theorem cset_kz (ks : List Nat) : riseT (kz ks) = kz (cset ks) := by
  unfold cset kz
  rw [List.map_map]
  conv => lhs; rw [← List.map_id (riseT _)]
  refine List.map_congr_left fun l hl => ?_
  obtain ⟨c, rfl, _⟩ := kz_one ((riseT_mem l _).mp hl)
  rfl
theorem cset_mem (ks : List Nat) (c : Nat) : c ∈ cset ks ↔ c ∈ ks := by
  rw [← kz_mem, ← cset_kz, riseT_mem, kz_mem]
theorem cset_congr {ks ls : List Nat} (h : ∀ c, c ∈ ks ↔ c ∈ ls) : cset ks = cset ls := by
  have e : riseT (kz ks) = riseT (kz ls) := eq_of_rise _ _ (riseT_sorted _) (riseT_sorted _) fun l => by
    rw [riseT_mem, riseT_mem]
    constructor
    · intro hl
      obtain ⟨c, rfl, hc⟩ := kz_one hl
      exact kz_mem.mpr ((h c).mp hc)
    · intro hl
      obtain ⟨c, rfl, hc⟩ := kz_one hl
      exact kz_mem.mpr ((h c).mpr hc)
  unfold cset
  rw [e]
theorem cset_nodup (ks : List Nat) : (cset ks).Nodup := by
  have h := riseT_sorted (kz ks)
  rw [cset_kz] at h
  unfold kz at h
  rw [List.pairwise_map] at h
  exact h.imp fun {a b} hab e => by
    subst e
    exact List.lt_irrefl _ hab
theorem sub_len {α : Type} [DecidableEq α] : ∀ (l m : List α), l.Nodup → (∀ x ∈ l, x ∈ m) → l.length ≤ m.length
  | [], _, _, _ => Nat.zero_le _
  | x :: l, m, h, hs => by
    obtain ⟨h1, h2⟩ := List.nodup_cons.mp h
    have hx := hs x List.mem_cons_self
    have := sub_len l (m.erase x) h2 fun y hy => (List.mem_erase_of_ne (fun e => h1 (by rw [← e]; exact hy))).mpr (hs y (List.mem_cons_of_mem _ hy))
    rw [List.length_erase_of_mem hx] at this
    have hp := List.length_pos_of_mem hx
    rw [List.length_cons]
    omega
theorem cset_len {ks M : List Nat} (h : ∀ c ∈ ks, c ∈ M) : (cset ks).length ≤ M.length := sub_len _ _ (cset_nodup ks) fun c hc => h c ((cset_mem ks c).mp hc)
theorem ded_len {ks M : List Nat} (h : ∀ c ∈ ks, c ∈ M) : ((kz ks).foldl stepT []).length ≤ M.length := by
  have := sub_len _ (kz M) (foldT_nodup (kz ks) [] .nil) fun l hl => by
    rcases (foldT_mem l (kz ks) []).mp hl with z | z
    · cases z
    · obtain ⟨c, rfl, hc⟩ := kz_one z
      exact kz_mem.mpr (h c hc)
  unfold kz at this ⊢
  rwa [List.length_map] at this
theorem rise_ok {ks M : List Nat} (h0 : ks ≠ []) (hl : ks.length < 4000) (h : ∀ c ∈ ks, c ∈ M) (hM : M.length < 64) : gRiseL [.lst (ks.map st)] = some (.lst ((cset ks).map st)) := by
  show gRise (.lst (ks.map st)) = _
  unfold gRise
  dsimp only
  rw [strs_kz]
  dsimp only
  have hl' : (kz ks).length < 4000 := by unfold kz; rw [List.length_map]; exact hl
  have h0' : kz ks ≠ [] := fun e => h0 (by unfold kz at e; exact List.map_eq_nil_iff.mp e)
  rw [if_pos ⟨hl', h0', Nat.lt_of_le_of_lt (ded_len h) hM⟩, cset_kz]
  unfold kz
  rw [List.map_map]
  rfl
theorem seqN {a b : MS} {ρ ρ' : DEnv} {O O' : Store} (h : a ρ O = .nx ρ' O') : msSeq a b ρ O = b ρ' O' := by rw [ms_seq, h, seqF_nx]
theorem if_noN {t : L2.M Bool} {a : MS} {ρ : DEnv} {O : Store} (h : t ρ O = .ok false O) : msIf t a msNil ρ O = .nx ρ O := by rw [if_no h]; rfl
theorem if_yesN {t : L2.M Bool} {a b : MS} {ρ ρ' : DEnv} {O O' : Store} (h : t ρ O = .ok true O) (ha : a ρ O = .nx ρ' O') : msIf t a b ρ O = .nx ρ' O' := by rw [if_yes h]; exact ha
theorem and_f {t1 t2 : L2.M Bool} {ρ : DEnv} {O : Store} (h1 : t1 ρ O = .ok false O) : mtAnd t1 t2 ρ O = .ok false O := by rw [mt_and, h1, bind_ok', if_neg Bool.false_ne_true]
theorem and_t {t1 t2 : L2.M Bool} {ρ : DEnv} {O : Store} {b : Bool} (h1 : t1 ρ O = .ok true O) (h2 : t2 ρ O = .ok b O) : mtAnd t1 t2 ρ O = .ok b O := by rw [mt_and, h1, bind_ok', if_pos rfl]; exact h2
abbrev L3 := Nat × Nat × Nat
def dL (x : L3) : D := .tup [st x.1, st x.2.1, st x.2.2]
def pr (p : Nat × Nat) : D := .tup [st p.1, st p.2]
def sgn (c : Nat) : List Nat := if c = 91 then [91, 91] else [c]
theorem w_sign (c : Nat) (O : Store) : c_written [.str kSign, st c] O = .ok (.str (sgn c)) O := by
  unfold sgn
  by_cases h : c = 91
  · subst h; rfl
  · have e : gEq (.str [c]) (.str [91]) = some (.bl false) := by rw [gEq_s, decide_eq_false (fun z => h (by injection z))]
    rw [if_neg h]
    show funF (b_written [some (.str kSign), some (.str [c])] O) = _
    unfold b_written
    rw [ms_seq, if_yes rfl, ms_ret, m_if, test_ok (bin_ok (x := .str [c]) (y := .str [91]) rfl rfl e), bind_ok', if_neg Bool.false_ne_true]
    rfl
def shB (p : Nat × Nat) (x : L3) : Bool := decide (p.2 = x.2.2) && (decide (p.1 = x.2.1) || decide (x.1 = 32))
theorem one_eq (a b : Nat) : gEq (st a) (st b) = some (.bl (decide (a = b))) := by
  show some (D.bl (decide ([a] = [b]))) = _
  rw [show decide ([a] = [b]) = decide (a = b) from decide_eq_decide.mpr ⟨fun h => by injection h, fun h => by rw [h]⟩]
theorem sh_ok (p : Nat × Nat) (x : L3) (O : Store) : c_shows [pr p, dL x] O = .ok (.bl (shB p x)) O := by
  unfold shB
  have e1 : mBin gEq (mBin gIx (mVar 0) (mC (.int 1))) (mBin gIx (mVar 1) (mC (.int 2))) [some (pr p), some (dL x)] O = .ok (.bl (decide (p.2 = x.2.2))) O := bin_ok (x := st p.2) (y := st x.2.2) rfl rfl (one_eq _ _)
  have e2 : mBin gEq (mBin gIx (mVar 0) (mC (.int 0))) (mBin gIx (mVar 1) (mC (.int 1))) [some (pr p), some (dL x)] O = .ok (.bl (decide (p.1 = x.2.1))) O := bin_ok (x := st p.1) (y := st x.2.1) rfl rfl (one_eq _ _)
  have e3 : mBin gEq (mBin gIx (mVar 1) (mC (.int 0))) (mC (.str [32])) [some (pr p), some (dL x)] O = .ok (.bl (decide (x.1 = 32))) O := bin_ok (x := st x.1) (y := st 32) rfl rfl (one_eq _ _)
  show funF (b_shows [some (pr p), some (dL x)] O) = _
  unfold b_shows
  rw [ms_ret, m_andV, e1, bind_ok']
  cases decide (p.2 = x.2.2) with
  | false => rfl
  | true =>
    show funF (retF (mOrV _ _ _ O)) = _
    rw [m_orV, e2, bind_ok']
    cases decide (p.1 = x.2.1) with
    | true => rfl
    | false =>
      show funF (retF (mBin gEq _ _ _ O)) = _
      rw [e3]
      rfl
theorem add_l {a b : L2.M D} {ρ : DEnv} {O : Store} {l m : List D} (ha : a ρ O = .ok (.lst l) O) (hb : b ρ O = .ok (.lst m) O) (h : l.length + m.length ≤ 1000000) : mBin gAdd a b ρ O = .ok (.lst (l ++ m)) O := bin_ok ha hb (by
  show (if l.length + m.length ≤ 1000000 then some (D.lst (l ++ m)) else none) = _
  rw [if_pos h])
theorem ix_at {x : L3} {i : Nat} {c : Nat} (h : (i = 1 ∧ c = x.2.1) ∨ (i = 2 ∧ c = x.2.2)) : gIx (dL x) (.int (i : Int)) = some (st c) := by
  rcases h with ⟨rfl, rfl⟩ | ⟨rfl, rfl⟩ <;> rfl
theorem col_ok (l : List L3) (i : Nat) (f : L3 → Nat) (hf : ∀ x, (i = 1 ∧ f x = x.2.1) ∨ (i = 2 ∧ f x = x.2.2)) {M : List Nat} (hl : l.length ≤ 1000) (hM : M.length < 64) (h46 : 46 ∈ M) (h : ∀ x ∈ l, f x ∈ M) (O : Store) :
    c_colours_of [.lst (l.map dL), .int (i : Int)] O = .ok (.lst ((cset (46 :: l.map f)).map st)) O := by
  show funF (b_colours_of [some (.lst (l.map dL)), some (.int (i : Int))] O) = _
  unfold b_colours_of
  have c := cloop_mapT (g := mgN 0) (t := mYes) (m := mBin gIx (mVar 0) (mVar 1)) (fun ρ => ∃ a, ρ = [a, some (.int (i : Int))]) dL (fun x => st (f x)) l [none, some (.int (i : Int))] O [] ⟨_, rfl⟩ (by
    rintro x hx ρ ⟨a, rfl⟩
    exact ⟨_, rfl, ⟨_, rfl⟩, rfl, bin_ok (x := dL x) (y := .int (i : Int)) rfl rfl (ix_at (hf x))⟩)
  rw [List.nil_append] at c
  have e := comp_ok (m := mIter (mVar 0)) (ρ := [some (.lst (l.map dL)), some (.int (i : Int))]) (own := 1) (cap := [1]) (it_ok (l := l.map dL) rfl) (by rw [List.length_map]; omega) rfl c
  rw [ms_ret, callB_ok (ma1 (add_l (l := [st 46]) rfl e (by rw [List.length_map]; show 1 + _ ≤ _; omega))) (z := .lst ((cset (46 :: l.map f)).map st)) ?_]
  · rfl
  · show gRiseL [.lst ([st 46] ++ l.map fun x => st (f x))] = _
    have := rise_ok (ks := 46 :: l.map f) (M := M) (by simp) (by rw [List.length_cons, List.length_map]; omega) (fun c hc => by
      rcases List.mem_cons.mp hc with rfl | hc
      · exact h46
      · obtain ⟨x, hx, rfl⟩ := List.mem_map.mp hc
        exact h x hx) hM
    rw [List.map_cons, List.map_map] at this
    exact this
def mk3 (n k v : List Nat) : D := .tup [.str n, .str k, .str v]
def mk2 (k v : List Nat) : D := .tup [.str k, .str v]
def mks (cs gs : List Nat) : List D := mk3 [91, 93] kPlain [] :: (cs.map (fun c => mk3 [91, c, 93] kInk [c]) ++ gs.map fun c => mk3 [91, 47, c, 93] kGround [c])
def wr (p : List Nat × List Nat) : List Nat := if p.1 = kPlain then [91, 93] else if p.1 = kInk then 91 :: (p.2 ++ [93]) else 91 :: 47 :: (p.2 ++ [93])
def mp (cs gs : List Nat) : List (List Nat × List Nat) := ([(kPlain, [])] ++ cs.map fun c => (kInk, [c])) ++ gs.map fun c => (kGround, [c])
def m2 (p : List Nat × List Nat) : D := mk2 p.1 p.2
def m3 (p : List Nat × List Nat) : D := mk3 (wr p) p.1 p.2
theorem mp_m2 (cs gs : List Nat) : ([mk2 kPlain []] ++ cs.map fun c => mk2 kInk [c]) ++ (gs.map fun c => mk2 kGround [c]) = (mp cs gs).map m2 := by
  unfold mp
  rw [List.map_append, List.map_append, List.map_map, List.map_map]
  rfl
theorem mp_m3 (cs gs : List Nat) : mks cs gs = (mp cs gs).map m3 := by
  unfold mp mks
  rw [List.map_append, List.map_append, List.map_map, List.map_map]
  rfl
theorem mp_mem {cs gs : List Nat} {p : List Nat × List Nat} (h : p ∈ mp cs gs) : p = (kPlain, []) ∨ (∃ c ∈ cs, p = (kInk, [c])) ∨ ∃ c ∈ gs, p = (kGround, [c]) := by
  unfold mp at h
  rcases List.mem_append.mp h with h | h
  · rcases List.mem_append.mp h with h | h
    · exact .inl (List.mem_singleton.mp h)
    · obtain ⟨c, hc, rfl⟩ := List.mem_map.mp h
      exact .inr (.inl ⟨c, hc, rfl⟩)
  · obtain ⟨c, hc, rfl⟩ := List.mem_map.mp h
    exact .inr (.inr ⟨c, hc, rfl⟩)
theorem w_all {cs gs : List Nat} {p : List Nat × List Nat} (h : p ∈ mp cs gs) (O : Store) : c_written [.str p.1, .str p.2] O = .ok (.str (wr p)) O := by
  rcases mp_mem h with rfl | ⟨c, _, rfl⟩ | ⟨c, _, rfl⟩ <;> rfl
theorem mp_len (cs gs : List Nat) : (mp cs gs).length = 1 + cs.length + gs.length := by
  unfold mp
  rw [List.length_append, List.length_append, List.length_map, List.length_map]
  rfl
theorem pair_comp (k : List Nat) (cs : List Nat) (O : Store) : cloop (mgN 0) mYes (mTup (maCons (mC (.str k)) (maCons (mVar 0) maNil))) (cs.map st) [none] O [] = .ok (cs.map fun c => mk2 k [c]) O := by
  have c := cloop_mapT (g := mgN 0) (t := mYes) (m := mTup (maCons (mC (.str k)) (maCons (mVar 0) maNil))) (fun ρ => ∃ a, ρ = [a]) st (fun c => mk2 k [c]) cs [none] O [] ⟨_, rfl⟩ (by
    rintro x hx ρ ⟨a, rfl⟩
    exact ⟨_, rfl, ⟨_, rfl⟩, rfl, rfl⟩)
  rwa [List.nil_append] at c
theorem marks_ok (cs gs : List Nat) (hc : cs.length ≤ 1000) (hg : gs.length ≤ 1000) (O : Store) : c_marks_of [.lst (cs.map st), .lst (gs.map st)] O = .ok (.lst (mks cs gs)) O := by
  show funF (b_marks_of [some (.lst (cs.map st)), some (.lst (gs.map st)), none] O) = _
  unfold b_marks_of
  have e1 := comp_ok (m := mIter (mVar 0)) (ρ := [some (.lst (cs.map st)), some (.lst (gs.map st)), none]) (own := 1) (cap := []) (it_ok (l := cs.map st) rfl) (by rw [List.length_map]; omega) rfl (pair_comp kInk cs O)
  have e2 := comp_ok (m := mIter (mVar 1)) (ρ := [some (.lst (cs.map st)), some (.lst (gs.map st)), none]) (own := 1) (cap := []) (it_ok (l := gs.map st) rfl) (by rw [List.length_map]; omega) rfl (pair_comp kGround gs O)
  have s1 : msSet 2 _ [some (.lst (cs.map st)), some (.lst (gs.map st)), none] O = _ := set_ok (add_l (add_l (a := mLst (maCons (mTup (maCons (mC (.str kPlain)) (maCons (mC (.str [])) maNil))) maNil)) (l := [mk2 kPlain []]) rfl e1 (by rw [List.length_map]; show 1 + _ ≤ _; omega)) e2 (by rw [List.length_append, List.length_map, List.length_map]; show 1 + _ + _ ≤ _; omega))
  refine (congrArg funF (seqN s1)).trans ?_
  rw [mp_m2]
  have c := cloop_mapT (g := mgN' 2 (mgsCons (mgN 0) (mgsCons (mgN 1) mgsNil))) (t := mYes) (m := mTup (maCons (mCall c_written (maCons (mVar 0) (maCons (mVar 1) maNil))) (maCons (mVar 0) (maCons (mVar 1) maNil)))) (fun ρ => ∃ a b, ρ = [a, b]) m2 m3 (mp cs gs) [none, none] O [] ⟨_, _, rfl⟩ (by
    rintro p hp ρ ⟨a, b, rfl⟩
    refine ⟨[some (.str p.1), some (.str p.2)], rfl, ⟨_, _, rfl⟩, rfl, ?_⟩
    exact tupA (maS (by rw [call_ok (ds := [.str p.1, .str p.2]) rfl]; exact w_all hp O) (maS (x := .str p.1) rfl (ma1 (x := .str p.2) rfl))) (show (3 : Nat) ≤ 1000000 by decide))
  rw [List.nil_append, ← mp_m3] at c
  rw [ms_ret, comp_ok (m := mIter (mVar 2)) (own := 2) (cap := []) (it_ok (l := (mp cs gs).map m2) rfl) (by rw [List.length_map, mp_len]; omega) rfl c]
  rfl
def prs (cs gs : List Nat) : List (Nat × Nat) := cs.flatMap fun c => gs.map fun g => (c, g)
def nd (k : Nat) (p : Nat × Nat) : D := .tup [.int (k : Int), pr p]
def fsS (l : List L3) (cs gs : List Nat) (m : Nat) : List (Str × D) := [("look", .lst (l.map dL)), ("marks", .lst (mks cs gs)), ("pairs", .ob m)]
structure Tr (O : Store) (n : Nat) (l : List L3) (cs gs : List Nat) : Prop where
  m : ∃ m, O[n]? = some (.ins "Shade" (fsS l cs gs m)) ∧ O[m]? = some (.ml ((prs cs gs).map pr))
theorem prs_len (cs gs : List Nat) : (prs cs gs).length = cs.length * gs.length := by
  unfold prs
  induction cs with
  | nil => simp
  | cons c cs ih => rw [List.flatMap_cons, List.length_append, ih, List.length_map, List.length_cons, Nat.succ_mul, Nat.add_comm]
theorem prs_mem {cs gs : List Nat} {p : Nat × Nat} : p ∈ prs cs gs ↔ p.1 ∈ cs ∧ p.2 ∈ gs := by
  unfold prs
  rw [List.mem_flatMap]
  constructor
  · rintro ⟨c, hc, h⟩
    obtain ⟨g, hg, rfl⟩ := List.mem_map.mp h
    exact ⟨hc, hg⟩
  · rintro ⟨h1, h2⟩
    exact ⟨p.1, h1, List.mem_map.mpr ⟨p.2, h2, rfl⟩⟩
theorem prs_snoc (cs gs : List Nat) (c : Nat) : prs (cs ++ [c]) gs = prs cs gs ++ gs.map fun g => (c, g) := by
  unfold prs
  rw [List.flatMap_append, List.flatMap_cons, List.flatMap_nil, List.append_nil]
theorem cloopO_map {α : Type} {g : MG} {t : L2.M Bool} {m : L2.M D} (Pv : DEnv → Prop) (f h : α → D) (xs : List α) (O : Store) (n : Nat) (hO : O[n]? = some (.ml (xs.map f)))
    (hs : ∀ x ∈ xs, ∀ ρ, Pv ρ → ∃ ρ1, g (f x) ρ = some ρ1 ∧ Pv ρ1 ∧ t ρ1 O = .ok true O ∧ m ρ1 O = .ok (h x) O) : ∀ (k : Nat) (ρ : DEnv) (acc : List D), k ≤ xs.length → Pv ρ → cloopO n xs.length g t m k ρ O acc = .ok (acc ++ (xs.drop (xs.length - k)).map h) O
  | 0, ρ, acc, _, _ => by
    unfold cloopO
    rw [hO]
    dsimp only
    rw [if_pos (List.length_map _), Nat.sub_zero, List.drop_length, List.map_nil, List.append_nil]
  | k + 1, ρ, acc, hk, hp => by
    have hlt : xs.length - (k + 1) < xs.length := by omega
    unfold cloopO
    rw [hO]
    dsimp only
    rw [List.getElem?_map, List.getElem?_eq_getElem hlt, Option.map_some]
    dsimp only
    obtain ⟨ρ1, e1, h1, e2, e3⟩ := hs _ (List.getElem_mem hlt) ρ hp
    rw [e1]
    dsimp only
    rw [e2]
    dsimp only
    rw [e3]
    dsimp only
    rw [cloopO_map Pv f h xs O n hO hs k ρ1 _ (by omega) h1, List.append_assoc, List.drop_eq_getElem_cons hlt, List.map_cons, show xs.length - (k + 1) + 1 = xs.length - k by omega]
    rfl
theorem compO_ok {α : Type} {mi : L2.M D} {own : Nat} {cap : List Nat} {g : MG} {t : L2.M Bool} {m : L2.M D} (Pv : DEnv → Prop) (f h : α → D) (xs : List α) {ρ : DEnv} {O : Store} {n : Nat} (hi : mi ρ O = .ok (.ob n) O) (hO : O[n]? = some (.ml (xs.map f))) (hl : xs.length ≤ 1000000) (h0 : Pv (cEnv own cap ρ))
    (hs : ∀ x ∈ xs, ∀ ρ, Pv ρ → ∃ ρ1, g (f x) ρ = some ρ1 ∧ Pv ρ1 ∧ t ρ1 O = .ok true O ∧ m ρ1 O = .ok (h x) O) : mCompO mi own cap g t m ρ O = .ok (.lst (xs.map h)) O := by
  unfold mCompO
  rw [hi, bind_ok']
  dsimp only
  rw [hO]
  dsimp only
  rw [if_pos (by rw [List.length_map]; exact hl), List.length_map, cloopO_map Pv f h xs O n hO hs xs.length _ [] (Nat.le_refl _) h0, bind_ok', Nat.sub_self, List.drop_zero, List.nil_append]
section
variable {O : Store} {n : Nat} {l : List L3} {cs gs : List Nat}
theorem f_look (T : Tr O n l cs gs) {i : Nat} {ρ : DEnv} (h : mVar i ρ O = .ok (.ob n) O) : mFld ["Shade"] "look" (mVar i) ρ O = .ok (.lst (l.map dL)) O := by
  obtain ⟨m, h1, _⟩ := T.m
  exact fld_get (n := n) h h1 List.mem_cons_self rfl
theorem f_marks (T : Tr O n l cs gs) {i : Nat} {ρ : DEnv} (h : mVar i ρ O = .ok (.ob n) O) : mFld ["Shade"] "marks" (mVar i) ρ O = .ok (.lst (mks cs gs)) O := by
  obtain ⟨m, h1, _⟩ := T.m
  exact fld_get (n := n) h h1 List.mem_cons_self rfl
theorem l_look (T : Tr O n l cs gs) {i : Nat} {ρ : DEnv} (h : mVar i ρ O = .ok (.ob n) O) : mCallB gLen (maCons (mFld ["Shade"] "look" (mVar i)) maNil) ρ O = .ok (.int (l.length : Int)) O := by
  rw [len_ok (f_look T h), List.length_map]
theorem e_first : c_Shade_first_node [.ob n] O = .ok (nd 0 (46, 46)) O := rfl
theorem e_last (T : Tr O n l cs gs) : c_Shade_last_at [.ob n] O = .ok (.int (l.length : Int)) O := by
  show funF (b_Shade_last_at [some (.ob n)] O) = _
  unfold b_Shade_last_at
  rw [ms_ret, l_look T rfl]
  rfl
theorem e_nodes (T : Tr O n l cs gs) (hl : (prs cs gs).length ≤ 1000000) (k : Nat) : c_Shade_nodes_at [.ob n, .int (k : Int)] O = .ok (.lst ((prs cs gs).map (nd k))) O := by
  obtain ⟨m, h1, h2⟩ := T.m
  show funF (b_Shade_nodes_at [some (.ob n), some (.int (k : Int))] O) = _
  unfold b_Shade_nodes_at
  rw [ms_ret, compO_ok (fun ρ => ∃ a, ρ = [a, some (.int (k : Int))]) pr (nd k) (prs cs gs) (fld_get (n := n) (y := .ob m) rfl h1 List.mem_cons_self rfl) h2 hl ⟨_, rfl⟩ (by
    rintro p hp ρ ⟨a, rfl⟩
    exact ⟨_, rfl, ⟨_, rfl⟩, rfl, rfl⟩)]
  rfl
theorem e_end (T : Tr O n l cs gs) (d : D) (b : D) (h : gEq d (nd l.length (46, 46)) = some b) (hd : deref O d = d) : c_Shade_is_end [.ob n, d] O = .ok b O := by
  show funF (b_Shade_is_end [some (.ob n), some d] O) = _
  unfold b_Shade_is_end
  rw [ms_ret, bin_ok (x := d) (y := nd l.length (46, 46)) rfl (tupA (maS (l_look T rfl) (ma1 (x := pr (46, 46)) rfl)) (show (2 : Nat) ≤ 1000000 by decide)) (by rw [hd]; exact h)]
  rfl
end
def mP (k : Nat) : D := .tup [.int 2, .str [91, 93], nd k (46, 46)]
def mI (k : Nat) (p : Nat × Nat) (c : Nat) : D := .tup [.int 3, .str [91, c, 93], nd k (c, p.2)]
def mGr (k : Nat) (p : Nat × Nat) (c : Nat) : D := .tup [.int 4, .str [91, 47, c, 93], nd k (p.1, c)]
def mS (k : Nat) (p : Nat × Nat) (x : L3) : D := .tup [.int 0, .str (sgn x.1), nd (k + 1) p]
def sg (l : List L3) (k : Nat) (p : Nat × Nat) : List D := match l[k]? with
  | some x => if shB p x = true then [mS k p x] else []
  | none => []
def mvs (l : List L3) (cs gs : List Nat) (k : Nat) (p : Nat × Nat) : List D := (([mP k] ++ cs.map (mI k p)) ++ gs.map (mGr k p)) ++ sg l k p
def pb (p : Nat × Nat) (q : List Nat × List Nat) : Nat × Nat := if q.1 = kPlain then (46, 46) else if q.1 = kInk then (q.2.headD 0, p.2) else (p.1, q.2.headD 0)
def mv (k : Nat) (p : Nat × Nat) (q : List Nat × List Nat) : D := .tup [.int ((wr q).length : Int), .str (wr q), nd k (pb p q)]
theorem mp_mv (cs gs : List Nat) (k : Nat) (p : Nat × Nat) : (mp cs gs).map (mv k p) = ([mP k] ++ cs.map (mI k p)) ++ gs.map (mGr k p) := by
  unfold mp
  rw [List.map_append, List.map_append, List.map_map, List.map_map]
  rfl
theorem p_all {cs gs : List Nat} {q : List Nat × List Nat} (h : q ∈ mp cs gs) (p : Nat × Nat) (O : Store) : c_pair_behind [pr p, .str q.1, .str q.2] O = .ok (pr (pb p q)) O := by
  rcases mp_mem h with rfl | ⟨c, _, rfl⟩ | ⟨c, _, rfl⟩ <;> rfl
theorem gl_wr {cs gs : List Nat} {q : List Nat × List Nat} (h : q ∈ mp cs gs) : gLen [.str (wr q)] = some (.int ((wr q).length : Int)) := by
  rcases mp_mem h with rfl | ⟨c, _, rfl⟩ | ⟨c, _, rfl⟩ <;> rfl
theorem at_l {l : List L3} {k : Nat} (h : k < l.length) : atI (l.map dL) (k : Int) = some (dL l[k]) := by
  rw [atI_ofNat, List.getElem?_map, List.getElem?_eq_getElem h]
  rfl
theorem e_mf {O : Store} {n : Nat} {l : List L3} {cs gs : List Nat} (T : Tr O n l cs gs) (hc : cs.length ≤ 1000) (hg : gs.length ≤ 1000) (k : Nat) (p : Nat × Nat) : c_Shade_moves_from [.ob n, nd k p] O = .ok (.lst (mvs l cs gs k p)) O := by
  show funF (b_Shade_moves_from [some (.ob n), some (nd k p), none, none, none] O) = _
  unfold b_Shade_moves_from
  refine (congrArg funF (seqN (set_ok (d := .int (k : Int)) rfl))).trans ?_
  refine (congrArg funF (seqN (set_ok (d := pr p) rfl))).trans ?_
  have c := cloop_mapT (g := mgN' 3 (mgsCons (mgN 0) (mgsCons (mgN 1) (mgsCons (mgN 2) mgsNil)))) (t := mYes) (m := mTup (maCons (mCallB gLen (maCons (mVar 0) maNil)) (maCons (mVar 0) (maCons (mTup (maCons (mVar 3) (maCons (mCall c_pair_behind (maCons (mVar 4) (maCons (mVar 1) (maCons (mVar 2) maNil)))) maNil))) maNil))))
    (fun ρ => ∃ a b c, ρ = [a, b, c, some (.int (k : Int)), some (pr p)]) m3 (mv k p) (mp cs gs) [none, none, none, some (.int (k : Int)), some (pr p)] O [] ⟨_, _, _, rfl⟩ (by
    rintro q hq ρ ⟨a, b, c, rfl⟩
    refine ⟨[some (.str (wr q)), some (.str q.1), some (.str q.2), some (.int (k : Int)), some (pr p)], rfl, ⟨_, _, _, rfl⟩, rfl, ?_⟩
    exact tupA (maS (callB_ok (ma1 (x := .str (wr q)) rfl) (gl_wr hq)) (maS (x := .str (wr q)) rfl (ma1 (tupA (maS (x := .int (k : Int)) rfl (ma1 (by rw [call_ok (ds := [pr p, .str q.1, .str q.2]) rfl]; exact p_all hq p O))) (show (2 : Nat) ≤ 1000000 by decide))))) (show (3 : Nat) ≤ 1000000 by decide))
  rw [List.nil_append, ← mp_m3, mp_mv] at c
  have lk : mIter (mFld ["Shade"] "marks" (mVar 0)) [some (.ob n), some (nd k p), some (.int (k : Int)), some (pr p), none] O = .ok (mks cs gs) O := it_ok (f_marks T rfl)
  refine (congrArg funF (seqN (set_ok (comp_ok (own := 3) (cap := [2, 3]) lk (by rw [mp_m3, List.length_map, mp_len]; omega) rfl c)))).trans ?_
  generalize hb : ([mP k] ++ cs.map (mI k p)) ++ gs.map (mGr k p) = base
  have hbl : base.length ≤ 3000 := by
    rw [← hb, List.length_append, List.length_append, List.length_map, List.length_map]
    show 1 + cs.length + gs.length ≤ 3000
    omega
  have lt : mTest (mBin gLt (mVar 2) (mCallB gLen (maCons (mFld ["Shade"] "look" (mVar 0)) maNil))) [some (.ob n), some (nd k p), some (.int (k : Int)), some (pr p), some (.lst base)] O = .ok (decide ((k : Int) < (l.length : Int))) O := lt_ok rfl (l_look T rfl)
  unfold mvs sg
  rw [hb]
  show funF (msSeq (msIf _ _ _) _ [some (.ob n), some (nd k p), some (.int (k : Int)), some (pr p), some (.lst base)] O) = _
  by_cases hk : k < l.length
  · rw [decide_eq_true (show (k : Int) < (l.length : Int) by omega)] at lt
    have ix : mBin gIx (mFld ["Shade"] "look" (mVar 0)) (mVar 2) [some (.ob n), some (nd k p), some (.int (k : Int)), some (pr p), some (.lst base)] O = .ok (dL l[k]) O := by
      refine bin_ok (f_look T rfl) (y := .int (k : Int)) rfl ?_
      exact at_l hk
    have sh : mTru (mCall c_shows (maCons (mVar 3) (maCons (mBin gIx (mFld ["Shade"] "look" (mVar 0)) (mVar 2)) maNil))) [some (.ob n), some (nd k p), some (.int (k : Int)), some (pr p), some (.lst base)] O = .ok (shB p l[k]) O := tru_f (by
      rw [call_ok (maS (x := pr p) rfl (ma1 ix))]
      exact sh_ok p _ O)
    rw [List.getElem?_eq_getElem hk]
    dsimp only
    cases hs : shB p l[k] with
    | false =>
      rw [hs] at sh
      refine (congrArg funF (seqN (if_noN (and_t lt sh)))).trans ?_
      rw [if_neg Bool.false_ne_true, List.append_nil]
      rfl
    | true =>
      rw [hs] at sh
      rw [if_pos rfl]
      have w : mCall c_written (maCons (mC (.str kSign)) (maCons (mBin gIx (mBin gIx (mFld ["Shade"] "look" (mVar 0)) (mVar 2)) (mC (.int 0))) maNil)) [some (.ob n), some (nd k p), some (.int (k : Int)), some (pr p), some (.lst base)] O = .ok (.str (sgn l[k].1)) O := by
        rw [call_ok (ds := [.str kSign, st l[k].1]) (maS (x := .str kSign) rfl (ma1 (bin_ok ix (y := .int 0) rfl rfl)))]
        exact w_sign _ O
      have ad : mTup (maCons (mBin gAdd (mVar 2) (mC (.int 1))) (maCons (mVar 3) maNil)) [some (.ob n), some (nd k p), some (.int (k : Int)), some (pr p), some (.lst base)] O = .ok (nd (k + 1) p) O := tupA (maS (add_i (i := (k : Int)) (j := 1) rfl rfl) (ma1 (x := pr p) rfl)) (show (2 : Nat) ≤ 1000000 by decide)
      refine (congrArg funF (seqN (if_yesN (and_t lt sh) (app_ok (i := 4) (ds := base) (d := mS k p l[k]) (tupA (maS (x := .int 0) rfl (maS w (ma1 ad))) (show (3 : Nat) ≤ 1000000 by decide)) rfl (by omega))))).trans ?_
      rfl
  · rw [decide_eq_false (show ¬ (k : Int) < (l.length : Int) by omega)] at lt
    refine (congrArg funF (seqN (if_noN (and_f lt)))).trans ?_
    rw [List.getElem?_eq_none (by omega)]
    dsimp only
    rw [List.append_nil]
    rfl
theorem ext_ok {mo m : L2.M D} {ρ : DEnv} {O : Store} {k : Nat} {ds es : List D} (ho : mo ρ O = .ok (.ob k) O) (hO : O[k]? = some (.ml ds)) (hm : m ρ O = .ok (.lst es) O) (hl : ds.length + es.length ≤ 1000000) : msExtO mo m ρ O = .nx ρ (O.set k (.ml (ds ++ es))) := by
  unfold msExtO
  rw [ho]
  dsimp only
  rw [hO]
  dsimp only
  rw [hm]
  dsimp only
  rw [hO]
  show (if ds.length + es.length ≤ 1000000 then Fl.nx ρ (O.set k (.ml (ds ++ es))) else .no) = _
  rw [if_pos hl]
theorem ml_new (ρ : DEnv) (O : Store) : mMl (mLst maNil) ρ O = .ok (.ob O.length) (O ++ [.ml []]) := rfl
theorem two_a (A : Store) (a b : Ob) : (A ++ [a, b])[A.length]? = some a := by
  rw [List.getElem?_append_right (Nat.le_refl _), Nat.sub_self]; rfl
theorem two_b (A : Store) (a b : Ob) : (A ++ [a, b])[A.length + 1]? = some b := by
  rw [List.getElem?_append_right (by omega), show A.length + 1 - A.length = 1 by omega]; rfl
theorem two_sa (A : Store) (a b c : Ob) : (A ++ [a, b]).set A.length c = A ++ [c, b] := by
  rw [List.set_append_right _ _ (Nat.le_refl _), Nat.sub_self]; rfl
theorem two_sb (A : Store) (a b c : Ob) : (A ++ [a, b]).set (A.length + 1) c = A ++ [a, c] := by
  rw [List.set_append_right _ _ (by omega), show A.length + 1 - A.length = 1 by omega]; rfl
theorem snoc2 (A : Store) (a b : Ob) : (A ++ [a]) ++ [b] = A ++ [a, b] := by rw [List.append_assoc]; rfl
theorem e_init (A : Store) (l : List L3) (cs gs : List Nat) (hc : cs.length ≤ 1000) (hg : gs.length ≤ 100) (h1 : ∀ O, c_colours_of [.lst (l.map dL), .int 1] O = .ok (.lst (cs.map st)) O) (h2 : ∀ O, c_colours_of [.lst (l.map dL), .int 2] O = .ok (.lst (gs.map st)) O) :
    c_Shade___init__ [.ob A.length, .lst (l.map dL)] (A ++ [.ins "Shade" []]) = .ok .non (A ++ [.ins "Shade" (fsS l cs gs (A.length + 1)), .ml ((prs cs gs).map pr)]) := by
  show funF (b_Shade___init__ [some (.ob A.length), some (.lst (l.map dL)), none, none, none] (A ++ [.ins "Shade" []])) = _
  unfold b_Shade___init__
  have s1 := fld_put (cs := ["Shade"]) (f := "look") (mo := mVar 0) (mv := mCallB gList (maCons (mVar 1) maNil)) (ρ := [some (.ob A.length), some (.lst (l.map dL)), none, none, none]) (O := A ++ [.ins "Shade" []]) (n := A.length) (fs := []) (list_ok (m := mVar 1) (d := .lst (l.map dL)) (l := l.map dL) rfl rfl) rfl snoc_at List.mem_cons_self (show (0 : Nat) < 900 by decide)
  rw [snoc_set] at s1
  refine (congrArg funF (seqN s1)).trans ?_
  refine (congrArg funF (seqN (set_ok (d := .lst (cs.map st)) (by rw [call_ok (ds := [.lst (l.map dL), .int 1]) rfl]; exact h1 _)))).trans ?_
  refine (congrArg funF (seqN (set_ok (d := .lst (gs.map st)) (by rw [call_ok (ds := [.lst (l.map dL), .int 2]) rfl]; exact h2 _)))).trans ?_
  have s4 := fld_put (cs := ["Shade"]) (f := "marks") (mo := mVar 0) (mv := mCall c_marks_of (maCons (mVar 2) (maCons (mVar 3) maNil))) (ρ := [some (.ob A.length), some (.lst (l.map dL)), some (.lst (cs.map st)), some (.lst (gs.map st)), none]) (O := A ++ [.ins "Shade" (putD "look" (.lst (l.map dL)) [])]) (n := A.length) (fs := putD "look" (.lst (l.map dL)) []) (d := .lst (mks cs gs)) (by rw [call_ok (ds := [.lst (cs.map st), .lst (gs.map st)]) rfl]; exact marks_ok cs gs hc (by omega) _) rfl snoc_at List.mem_cons_self (show (1 : Nat) < 900 by decide)
  rw [snoc_set] at s4
  refine (congrArg funF (seqN s4)).trans ?_
  have s5 := fld_put (cs := ["Shade"]) (f := "pairs") (mo := mVar 0) (mv := mMl (mLst maNil)) (ρ := [some (.ob A.length), some (.lst (l.map dL)), some (.lst (cs.map st)), some (.lst (gs.map st)), none]) (O := A ++ [.ins "Shade" (putD "marks" (.lst (mks cs gs)) (putD "look" (.lst (l.map dL)) []))]) (n := A.length) (fs := putD "marks" (.lst (mks cs gs)) (putD "look" (.lst (l.map dL)) [])) (ml_new _ _) rfl (by rw [snoc2]; exact two_a _ _ _) List.mem_cons_self (show (2 : Nat) < 900 by decide)
  rw [snoc2, two_sa, List.length_append] at s5
  refine (congrArg funF (seqN s5)).trans ?_
  have hp : ∀ i, (prs (cs.take i) gs).length ≤ 100000 := fun i => by
    rw [prs_len, List.length_take]
    exact Nat.le_trans (Nat.mul_le_mul (Nat.le_trans (Nat.min_le_right _ _) hc) hg) (by decide)
  obtain ⟨ρ', O', e, _, hO, _⟩ := floop_ind (g := mgN 4) (b := msExtO (mFld ["Shade"] "pairs" (mVar 0)) (mComp (mIter (mVar 3)) 1 [4] (mgN 0) mYes (mTup (maCons (mVar 1) (maCons (mVar 0) maNil)))))
    (fun i ρ O => i ≤ cs.length ∧ O = A ++ [.ins "Shade" (fsS l cs gs (A.length + 1)), .ml ((prs (cs.take i) gs).map pr)] ∧ ∃ x, ρ = [some (.ob A.length), some (.lst (l.map dL)), some (.lst (cs.map st)), some (.lst (gs.map st)), x]) (cs.map st) 0 [some (.ob A.length), some (.lst (l.map dL)), some (.lst (cs.map st)), some (.lst (gs.map st)), none] (A ++ [.ins "Shade" (fsS l cs gs (A.length + 1)), .ml []]) ⟨Nat.zero_le _, rfl, _, rfl⟩ (by
    rintro i d ρ O hi ⟨hle, rfl, x, rfl⟩
    rw [Nat.zero_add] at hle ⊢
    have hlt : i < cs.length := by have := (List.getElem?_eq_some_iff.mp hi).1; rwa [List.length_map] at this
    rw [List.getElem?_map, List.getElem?_eq_getElem hlt] at hi
    cases hi
    refine ⟨[some (.ob A.length), some (.lst (l.map dL)), some (.lst (cs.map st)), some (.lst (gs.map st)), some (st cs[i])], rfl, _, _, .inl (ext_ok (k := A.length + 1) (es := (gs.map fun g => (cs[i], g)).map pr) (fld_get (n := A.length) rfl (two_a _ _ _) List.mem_cons_self rfl) (two_b _ _ _) ?_ ?_), hlt, ?_, _, rfl⟩
    · have c := cloop_mapT (g := mgN 0) (t := mYes) (m := mTup (maCons (mVar 1) (maCons (mVar 0) maNil))) (fun ρ => ∃ a, ρ = [a, some (st cs[i])]) st (fun g => pr (cs[i], g)) gs [none, some (st cs[i])] (A ++ [.ins "Shade" (fsS l cs gs (A.length + 1)), .ml ((prs (cs.take i) gs).map pr)]) [] ⟨_, rfl⟩ (by
        rintro g hg ρ ⟨a, rfl⟩
        exact ⟨_, rfl, ⟨_, rfl⟩, rfl, rfl⟩)
      rw [List.nil_append] at c
      rw [List.map_map]
      exact comp_ok (m := mIter (mVar 3)) (own := 1) (cap := [4]) (it_ok (l := gs.map st) rfl) (by rw [List.length_map]; omega) rfl c
    · have := hp i
      rw [List.length_map, List.length_map, List.length_map]
      omega
    · rw [two_sb, ← List.map_append, ← prs_snoc, List.take_succ, List.getElem?_eq_getElem hlt]
      rfl)
  rw [Nat.zero_add, List.length_map, List.take_length] at hO
  rw [show (A.length + [Ob.ins "Shade" (putD "marks" (.lst (mks cs gs)) (putD "look" (.lst (l.map dL)) []))].length) = A.length + 1 from rfl]
  refine (congrArg funF (show msFor (mIter (mVar 2)) (mgN 4) _ [some (.ob A.length), some (.lst (l.map dL)), some (.lst (cs.map st)), some (.lst (gs.map st)), none] (A ++ [.ins "Shade" (fsS l cs gs (A.length + 1)), .ml []]) = .nx ρ' O' from ?_)).trans ?_
  · rw [ms_for, it_ok (l := cs.map st) rfl, forF_ok, e]
  · rw [hO]
    rfl
theorem shC (p : Nat × Nat) (x : L3) : (decide (x.2.2 = p.2) && (decide (x.1 = 32) || decide (x.2.1 = p.1))) = shB p x := by
  unfold shB
  rw [Bool.or_comm, show decide (x.2.2 = p.2) = decide (p.2 = x.2.2) from decide_eq_decide.mpr eq_comm, show decide (x.2.1 = p.1) = decide (p.1 = x.2.1) from decide_eq_decide.mpr eq_comm]
theorem or_b {t1 t2 : L2.M Bool} {ρ : DEnv} {O : Store} {b c : Bool} (h1 : t1 ρ O = .ok b O) (h2 : t2 ρ O = .ok c O) : mtOr t1 t2 ρ O = .ok (b || c) O := by
  rw [mt_or, h1, bind_ok']
  cases b with
  | true => rw [if_pos rfl]; rfl
  | false => rw [if_neg Bool.false_ne_true]; exact h2
theorem and_b {t1 t2 : L2.M Bool} {ρ : DEnv} {O : Store} {b c : Bool} (h1 : t1 ρ O = .ok b O) (h2 : t2 ρ O = .ok c O) : mtAnd t1 t2 ρ O = .ok (b && c) O := by
  rw [mt_and, h1, bind_ok']
  cases b with
  | true => rw [if_pos rfl]; exact h2
  | false => rw [if_neg Bool.false_ne_true]; rfl
theorem app_loop {g : MG} {m : L2.M D} {j i : Nat} {f : Nat → D} (cs : List Nat) (ρ0 : Option D → Option D → DEnv) (acc : List D) (O : Store) (a7 : Option D) (hl : acc.length + cs.length < 1000000)
    (hg : ∀ c a x, g (st c) (ρ0 a x) = some (ρ0 a (some (st c)))) (hm : ∀ c ∈ cs, ∀ a, m (ρ0 a (some (st c))) O = .ok (f c) O) (hr : ∀ a x, (ρ0 a x)[i]? = some a) (hs : ∀ a x b, (ρ0 a x).set i b = ρ0 b x) :
    ∃ x, floop g (msApp i m) (cs.map st) (ρ0 (some (.lst acc)) a7) O = .nx (ρ0 (some (.lst (acc ++ cs.map f))) x) O := by
  induction cs generalizing acc a7 with
  | nil => exact ⟨a7, by rw [List.map_nil, List.map_nil, List.append_nil]; rfl⟩
  | cons c cs ih =>
    rw [List.length_cons] at hl
    obtain ⟨x, e⟩ := ih (acc ++ [f c]) (some (st c)) (by rw [List.length_append, List.length_singleton]; omega) fun d hd => hm d (List.mem_cons_of_mem _ hd)
    refine ⟨x, ?_⟩
    rw [List.map_cons]
    unfold floop
    rw [hg]
    dsimp only
    rw [app_ok (hm c List.mem_cons_self _) (hr _ _) (by omega), hs]
    dsimp only
    rw [e, List.map_cons, List.append_assoc]
    rfl
theorem due_ok (l : List L3) (cs gs : List Nat) (hc : cs.length ≤ 1000) (hg : gs.length ≤ 1000) (k : Nat) (p : Nat × Nat) (O : Store) : c_law_due [.lst (l.map dL), .lst (cs.map st), .lst (gs.map st), nd k p] O = .ok (.lst (mvs l cs gs k p)) O := by
  show funF (b_law_due [some (.lst (l.map dL)), some (.lst (cs.map st)), some (.lst (gs.map st)), some (nd k p), none, none, none, none, none] O) = _
  unfold b_law_due
  refine (congrArg funF (seqN (show msAsg _ _ _ O = .nx [some (.lst (l.map dL)), some (.lst (cs.map st)), some (.lst (gs.map st)), some (nd k p), some (.int (k : Int)), some (pr p), none, none, none] O from rfl))).trans ?_
  refine (congrArg funF (seqN (set_ok (d := .lst [mP k]) rfl))).trans ?_
  obtain ⟨x7, e7⟩ := app_loop (g := mgN 7) (m := mTup (maCons (mC (.int 3)) (maCons (mBin gAdd (mBin gAdd (mC (.str [91])) (mVar 7)) (mC (.str [93]))) (maCons (mTup (maCons (mVar 4) (maCons (mTup (maCons (mVar 7) (maCons (mBin gIx (mVar 5) (mC (.int 1))) maNil))) maNil))) maNil)))) (i := 6) (j := 7) (f := mI k p) cs
    (fun a x => [some (.lst (l.map dL)), some (.lst (cs.map st)), some (.lst (gs.map st)), some (nd k p), some (.int (k : Int)), some (pr p), a, x, none]) [mP k] O none (by show 1 + _ < _; omega) (fun _ _ _ => rfl) (fun _ _ _ => rfl) (fun _ _ => rfl) (fun _ _ _ => rfl)
  refine (congrArg funF (seqN (show msFor (mIter (mVar 1)) (mgN 7) _ [some (.lst (l.map dL)), some (.lst (cs.map st)), some (.lst (gs.map st)), some (nd k p), some (.int (k : Int)), some (pr p), some (.lst [mP k]), none, none] O = _ from by rw [ms_for, it_ok (l := cs.map st) rfl, forF_ok]; exact e7))).trans ?_
  obtain ⟨x8, e8⟩ := app_loop (g := mgN 8) (m := mTup (maCons (mC (.int 4)) (maCons (mBin gAdd (mBin gAdd (mC (.str [91, 47])) (mVar 8)) (mC (.str [93]))) (maCons (mTup (maCons (mVar 4) (maCons (mTup (maCons (mBin gIx (mVar 5) (mC (.int 0))) (maCons (mVar 8) maNil))) maNil))) maNil)))) (i := 6) (j := 8) (f := mGr k p) gs
    (fun a x => [some (.lst (l.map dL)), some (.lst (cs.map st)), some (.lst (gs.map st)), some (nd k p), some (.int (k : Int)), some (pr p), a, x7, x]) ([mP k] ++ cs.map (mI k p)) O none (by rw [List.length_append, List.length_map]; show 1 + _ + _ < _; omega) (fun _ _ _ => rfl) (fun _ _ _ => rfl) (fun _ _ => rfl) (fun _ _ _ => rfl)
  refine (congrArg funF (seqN (show msFor (mIter (mVar 2)) (mgN 8) _ [some (.lst (l.map dL)), some (.lst (cs.map st)), some (.lst (gs.map st)), some (nd k p), some (.int (k : Int)), some (pr p), some (.lst ([mP k] ++ cs.map (mI k p))), x7, none] O = _ from by rw [ms_for, it_ok (l := gs.map st) rfl, forF_ok]; exact e8))).trans ?_
  generalize hb : ([mP k] ++ cs.map (mI k p)) ++ gs.map (mGr k p) = base
  have hbl : base.length ≤ 3000 := by
    rw [← hb, List.length_append, List.length_append, List.length_map, List.length_map]
    show 1 + cs.length + gs.length ≤ 3000
    omega
  generalize hρ : [some (.lst (l.map dL)), some (.lst (cs.map st)), some (.lst (gs.map st)), some (nd k p), some (.int (k : Int)), some (pr p), some (.lst base), x7, x8] = ρ
  have v0 : mVar 0 ρ O = .ok (.lst (l.map dL)) O := by rw [← hρ]; rfl
  have v4 : mVar 4 ρ O = .ok (.int (k : Int)) O := by rw [← hρ]; rfl
  have v5 : mVar 5 ρ O = .ok (pr p) O := by rw [← hρ]; rfl
  have lt : mTest (mBin gLt (mVar 4) (mCallB gLen (maCons (mVar 0) maNil))) ρ O = .ok (decide ((k : Int) < (l.length : Int))) O := lt_ok v4 (by rw [len_ok v0, List.length_map])
  unfold mvs sg
  rw [hb]
  by_cases hk : k < l.length
  · rw [decide_eq_true (show (k : Int) < (l.length : Int) by omega)] at lt
    have ix : mBin gIx (mVar 0) (mVar 4) ρ O = .ok (dL l[k]) O := bin_ok v0 v4 (at_l hk)
    have i0 : mBin gIx (mBin gIx (mVar 0) (mVar 4)) (mC (.int 0)) ρ O = .ok (st l[k].1) O := bin_ok ix (y := .int 0) rfl rfl
    have i1 : mBin gIx (mBin gIx (mVar 0) (mVar 4)) (mC (.int 1)) ρ O = .ok (st l[k].2.1) O := bin_ok ix (y := .int 1) rfl rfl
    have i2 : mBin gIx (mBin gIx (mVar 0) (mVar 4)) (mC (.int 2)) ρ O = .ok (st l[k].2.2) O := bin_ok ix (y := .int 2) rfl rfl
    have j1 : mBin gIx (mVar 5) (mC (.int 1)) ρ O = .ok (st p.2) O := bin_ok v5 (y := .int 1) rfl rfl
    have j0 : mBin gIx (mVar 5) (mC (.int 0)) ρ O = .ok (st p.1) O := bin_ok v5 (y := .int 0) rfl rfl
    have tt := and_t lt (and_b (test_ok (bin_ok i2 j1 (g := gEq) (one_eq l[k].2.2 p.2))) (or_b (test_ok (bin_ok i0 (b := mC (.str [32])) (g := gEq) (y := st 32) rfl (one_eq l[k].1 32))) (test_ok (bin_ok i1 j0 (g := gEq) (one_eq l[k].2.1 p.1)))))
    rw [shC] at tt
    rw [List.getElem?_eq_getElem hk]
    dsimp only
    cases hs : shB p l[k] with
    | false =>
      rw [hs] at tt
      refine (congrArg funF (seqN (if_noN tt))).trans ?_
      rw [if_neg Bool.false_ne_true, List.append_nil, ← hρ]
      rfl
    | true =>
      rw [hs] at tt
      have w : mBin gIx (mLst (maCons (mBin gIx (mBin gIx (mVar 0) (mVar 4)) (mC (.int 0))) (maCons (mC (.str [91, 91])) maNil))) (mCallB gInt (maCons (mBin gEq (mBin gIx (mBin gIx (mVar 0) (mVar 4)) (mC (.int 0))) (mC (.str [91]))) maNil)) ρ O = .ok (.str (sgn l[k].1)) O := by
        have ll : mLst (maCons (mBin gIx (mBin gIx (mVar 0) (mVar 4)) (mC (.int 0))) (maCons (mC (.str [91, 91])) maNil)) ρ O = .ok (.lst [st l[k].1, .str [91, 91]]) O := lstA (maS i0 (ma1 rfl)) (show (2 : Nat) ≤ 1000000 by decide)
        have eq := bin_ok i0 (g := gEq) (y := st 91) (b := mC (.str [91])) rfl (one_eq l[k].1 91)
        unfold sgn
        by_cases h91 : l[k].1 = 91
        · rw [decide_eq_true h91] at eq
          rw [if_pos h91]
          exact bin_ok ll (callB_ok (ma1 eq) (z := .int 1) rfl) rfl
        · rw [decide_eq_false h91] at eq
          rw [if_neg h91]
          exact bin_ok ll (callB_ok (ma1 eq) (z := .int 0) rfl) rfl
      have ad : mTup (maCons (mBin gAdd (mVar 4) (mC (.int 1))) (maCons (mVar 5) maNil)) ρ O = .ok (nd (k + 1) p) O := tupA (maS (add_i v4 (j := 1) rfl) (ma1 v5)) (show (2 : Nat) ≤ 1000000 by decide)
      have ap := app_ok (i := 6) (ds := base) (d := mS k p l[k]) (tupA (maS (x := .int 0) (a := mC (.int 0)) rfl (maS w (ma1 ad))) (show (3 : Nat) ≤ 1000000 by decide)) (by rw [← hρ]; rfl) (by omega)
      refine (congrArg funF (seqN (if_yesN tt ap))).trans ?_
      rw [if_pos rfl, ← hρ]
      rfl
  · rw [decide_eq_false (show ¬ (k : Int) < (l.length : Int) by omega)] at lt
    refine (congrArg funF (seqN (if_noN (and_f lt)))).trans ?_
    rw [List.getElem?_eq_none (by omega)]
    dsimp only
    rw [List.append_nil, ← hρ]
    rfl
def Ok1 (c : Nat) : Prop := c < 1114112
structure OkP (d : D) : Prop where
  pl : plainD d = true
  ly : (toP d).canLay0 = true
  dp : (toP d).depth ≤ 9
theorem sOk {l : List Nat} (h : ∀ c ∈ l, Ok1 c) : PyData.strOk (S l) = true := lay_str h
theorem sOk1 {c : Nat} (h : Ok1 c) : PyData.strOk (S [c]) = true := sOk fun x hx => by rw [List.mem_singleton.mp hx]; exact h
theorem okN {k : Nat} {p : Nat × Nat} (h1 : Ok1 p.1) (h2 : Ok1 p.2) : OkP (nd k p) := by
  refine ⟨rfl, ?_, Nat.le_of_ble_eq_true rfl⟩
  show (PyData.canLay0 (.int (k : Int)) && ((PyData.canLay0 (.tuple [.str (S [p.1]), .str (S [p.2])])) && true)) = true
  show (true && ((PyData.strOk (S [p.1]) && (PyData.strOk (S [p.2]) && true)) && true)) = true
  rw [sOk1 h1, sOk1 h2]
  rfl
theorem okM {a : Int} {s : List Nat} {k : Nat} {p : Nat × Nat} (hs : ∀ c ∈ s, Ok1 c) (h1 : Ok1 p.1) (h2 : Ok1 p.2) : OkP (.tup [.int a, .str s, nd k p]) := by
  refine ⟨rfl, ?_, Nat.le_of_ble_eq_true rfl⟩
  have := (okN (k := k) h1 h2).ly
  show (true && (PyData.strOk (S s) && ((toP (nd k p)).canLay0 && true))) = true
  rw [sOk hs, this]
  rfl
theorem ne_refl {r : List D} (h : ∀ x ∈ r, OkP x) : gNe (.lst r) (.lst r) = some (.bl false) := by
  have e := okE_lst (n := 9) (by decide) (ds := r) fun d hd => ⟨(h d hd).pl, (h d hd).ly, (h d hd).dp⟩
  rw [gNe_l, e, eqDD_refl e]
  rfl
theorem ltP (p q : Nat × Nat) : ∃ b, ltN [pr p] [pr q] = some b := by
  unfold ltN
  show ∃ b, (match some (decide ([p.1] = [q.1]) && decide ([p.2] = [q.2])) with | some true => ltN [] [] | some false => ltE (pr p) (pr q) | none => none) = some b
  cases (decide ([p.1] = [q.1]) && decide ([p.2] = [q.2])) with
  | true => exact ⟨_, rfl⟩
  | false => exact ⟨_, rfl⟩
theorem ltNd (k : Nat) (p q : Nat × Nat) : ∃ b, ltN [.int (k : Int), pr p] [.int (k : Int), pr q] = some b := by
  obtain ⟨b, e⟩ := ltP p q
  refine ⟨b, ?_⟩
  unfold ltN
  show (match some (decide ((k : Int) = (k : Int))) with | some true => ltN [pr p] [pr q] | some false => ltE (.int (k : Int)) (.int (k : Int)) | none => none) = some b
  rw [decide_eq_true rfl]
  exact e
theorem srtN {cs gs : List Nat} (h64 : (prs cs gs).length < 64) (hc : ∀ c ∈ cs, Ok1 c) (hg : ∀ c ∈ gs, Ok1 c) (k : Nat) : ∃ r, gSortN [.lst ((prs cs gs).map (nd k))] = some (.lst r) ∧ gNe (.lst r) (.lst r) = some (.bl false) := by
  obtain ⟨r, e, hr⟩ := srt_tot (ds := (prs cs gs).map (nd k)) (by rw [List.length_map]; exact h64) (List.all_eq_true.mpr fun d hd => by
    obtain ⟨p, _, rfl⟩ := List.mem_map.mp hd
    rfl) fun d hd e he => by
    obtain ⟨p, _, rfl⟩ := List.mem_map.mp hd
    obtain ⟨q, _, rfl⟩ := List.mem_map.mp he
    obtain ⟨b, hb⟩ := ltNd k p q
    exact ⟨_, _, b, rfl, rfl, hb⟩
  refine ⟨r, e, ne_refl fun x hx => ?_⟩
  obtain ⟨p, hp, rfl⟩ := List.mem_map.mp (hr x hx)
  have := prs_mem.mp hp
  exact okN (hc _ this.1) (hg _ this.2)
def Fn (k : Nat) (p : Nat × Nat) (a : Int) (s : List Nat) : Nat × (Nat × Nat) := if a = 2 then (k, (46, 46)) else if a = 3 then (k, (s.getD 1 0, p.2)) else if a = 4 then (k, (p.1, s.getD 2 0)) else (k + 1, p)
def mF (k : Nat) (p : Nat × Nat) (a : Int) (s : List Nat) : D := .tup [.int a, .str s, nd (Fn k p a s).1 (Fn k p a s).2]
theorem ltM (k : Nat) (p : Nat × Nat) (a b : Int) (s t : List Nat) : ∃ r, ltN [.int a, .str s, nd (Fn k p a s).1 (Fn k p a s).2] [.int b, .str t, nd (Fn k p b t).1 (Fn k p b t).2] = some r := by
  unfold ltN
  show ∃ r, (match some (decide (a = b)) with | some true => ltN [.str s, nd (Fn k p a s).1 (Fn k p a s).2] [.str t, nd (Fn k p b t).1 (Fn k p b t).2] | some false => ltE (.int a) (.int b) | none => none) = some r
  by_cases hab : a = b
  · subst hab
    rw [decide_eq_true rfl]
    show ∃ r, ltN [.str s, nd (Fn k p a s).1 (Fn k p a s).2] [.str t, nd (Fn k p a t).1 (Fn k p a t).2] = some r
    unfold ltN
    show ∃ r, (match some (decide (s = t)) with | some true => ltN [nd (Fn k p a s).1 (Fn k p a s).2] [nd (Fn k p a t).1 (Fn k p a t).2] | some false => ltE (.str s) (.str t) | none => none) = some r
    by_cases hst : s = t
    · subst hst
      rw [decide_eq_true rfl]
      show ∃ r, ltN [nd (Fn k p a s).1 (Fn k p a s).2] [nd (Fn k p a s).1 (Fn k p a s).2] = some r
      generalize Fn k p a s = f
      unfold ltN
      show ∃ r, (match some (decide ((f.1 : Int) = (f.1 : Int)) && (decide ([f.2.1] = [f.2.1]) && decide ([f.2.2] = [f.2.2]))) with | some true => ltN [] [] | some false => _ | none => _) = some r
      rw [decide_eq_true rfl, decide_eq_true rfl, decide_eq_true rfl]
      exact ⟨_, rfl⟩
    · rw [decide_eq_false hst]
      exact ⟨_, rfl⟩
  · rw [decide_eq_false hab]
    exact ⟨_, rfl⟩
theorem mvs_F {l : List L3} {cs gs : List Nat} {k : Nat} {p : Nat × Nat} (hc : ∀ c ∈ cs, Ok1 c) (hg : ∀ c ∈ gs, Ok1 c) (hl : ∀ x ∈ l, Ok1 x.1) (h1 : Ok1 p.1) (h2 : Ok1 p.2) {d : D} (h : d ∈ mvs l cs gs k p) : (∃ a s, d = mF k p a s) ∧ OkP d := by
  have lit : ∀ c ∈ [91, 93, 47, 46], Ok1 c := by
    unfold Ok1
    decide
  have o91 : Ok1 91 := lit _ (by decide)
  have o93 : Ok1 93 := lit _ (by decide)
  have o47 : Ok1 47 := lit _ (by decide)
  have o46 : Ok1 46 := lit _ (by decide)
  unfold mvs at h
  rcases List.mem_append.mp h with h | h
  · rcases List.mem_append.mp h with h | h
    · rcases List.mem_append.mp h with h | h
      · rw [List.mem_singleton.mp h]
        exact ⟨⟨2, [91, 93], rfl⟩, okM (fun c hc => by
          rcases List.mem_cons.mp hc with rfl | hc
          · exact o91
          · rw [List.mem_singleton.mp hc]; exact o93) o46 o46⟩
      · obtain ⟨c, hc', rfl⟩ := List.mem_map.mp h
        exact ⟨⟨3, [91, c, 93], rfl⟩, okM (fun x hx => by
          rcases List.mem_cons.mp hx with rfl | hx
          · exact o91
          · rcases List.mem_cons.mp hx with rfl | hx
            · exact hc _ hc'
            · rw [List.mem_singleton.mp hx]; exact o93) (hc _ hc') h2⟩
    · obtain ⟨c, hc', rfl⟩ := List.mem_map.mp h
      exact ⟨⟨4, [91, 47, c, 93], rfl⟩, okM (fun x hx => by
        rcases List.mem_cons.mp hx with rfl | hx
        · exact o91
        · rcases List.mem_cons.mp hx with rfl | hx
          · exact o47
          · rcases List.mem_cons.mp hx with rfl | hx
            · exact hg _ hc'
            · rw [List.mem_singleton.mp hx]; exact o93) h1 (hg _ hc')⟩
  · unfold sg at h
    split at h
    · rename_i x hx
      split at h
      · rw [List.mem_singleton.mp h]
        refine ⟨⟨0, sgn x.1, rfl⟩, okM (fun c hc => ?_) h1 h2⟩
        unfold sgn at hc
        split at hc
        · rcases List.mem_cons.mp hc with rfl | hc
          · exact o91
          · rw [List.mem_singleton.mp hc]; exact o91
        · rw [List.mem_singleton.mp hc]
          exact hl x (List.mem_of_getElem? hx)
      · cases h
    · cases h
theorem mvs_len (l : List L3) (cs gs : List Nat) (k : Nat) (p : Nat × Nat) : (mvs l cs gs k p).length ≤ 2 + cs.length + gs.length := by
  have : (sg l k p).length ≤ 1 := by
    unfold sg
    split
    · split
      · exact Nat.le_refl _
      · exact Nat.zero_le _
    · exact Nat.zero_le _
  unfold mvs
  rw [List.length_append, List.length_append, List.length_append, List.length_map, List.length_map]
  show 1 + cs.length + gs.length + (sg l k p).length ≤ _
  omega
theorem srtM {l : List L3} {cs gs : List Nat} {k : Nat} {p : Nat × Nat} (hcl : cs.length ≤ 20) (hgl : gs.length ≤ 20) (hc : ∀ c ∈ cs, Ok1 c) (hg : ∀ c ∈ gs, Ok1 c) (hl : ∀ x ∈ l, Ok1 x.1) (h1 : Ok1 p.1) (h2 : Ok1 p.2) : ∃ r, gSortN [.lst (mvs l cs gs k p)] = some (.lst r) ∧ gNe (.lst r) (.lst r) = some (.bl false) := by
  have hlen := mvs_len l cs gs k p
  obtain ⟨r, e, hr⟩ := srt_tot (ds := mvs l cs gs k p) (by omega) (List.all_eq_true.mpr fun d hd => by
    obtain ⟨⟨a, s, rfl⟩, _⟩ := mvs_F hc hg hl h1 h2 hd
    rfl) fun d hd e he => by
    obtain ⟨⟨a, s, rfl⟩, _⟩ := mvs_F hc hg hl h1 h2 hd
    obtain ⟨⟨b, t, rfl⟩, _⟩ := mvs_F hc hg hl h1 h2 he
    obtain ⟨r, hb⟩ := ltM k p a b s t
    exact ⟨_, _, r, rfl, rfl, hb⟩
  exact ⟨r, e, ne_refl fun x hx => (mvs_F hc hg hl h1 h2 (hr x hx)).2⟩
theorem eq_nd (k : Nat) (p : Nat × Nat) (n : Nat) (h1 : Ok1 p.1) (h2 : Ok1 p.2) : ∃ b, gEq (nd k p) (nd n (46, 46)) = some (.bl b) := by
  have o46 : Ok1 46 := by unfold Ok1; decide
  have e1 := okN (k := k) h1 h2
  have e2 := okN (k := n) (p := (46, 46)) o46 o46
  have k1 : ∀ {d : D}, OkP d → okE d = true := fun {d} h => by
    unfold okE okD
    rw [h.pl, h.ly, decide_eq_true (Nat.le_trans h.dp (by decide))]
    rfl
  refine ⟨eqDD (nd k p) (nd n (46, 46)), ?_⟩
  show (if (okE (nd k p) && okE (nd n (46, 46))) = true then some (D.bl (eqDD (nd k p) (nd n (46, 46)))) else none) = _
  rw [k1 e1, k1 e2]
  rfl
theorem eq_end (n : Nat) : gEq (nd n (46, 46)) (nd n (46, 46)) = some (.bl true) := by
  have o46 : Ok1 46 := by unfold Ok1; decide
  have h := okN (k := n) (p := (46, 46)) o46 o46
  have e : okE (nd n (46, 46)) = true := by
    unfold okE okD
    rw [h.pl, h.ly, decide_eq_true (Nat.le_trans h.dp (by decide))]
    rfl
  show (if (okE (nd n (46, 46)) && okE (nd n (46, 46))) = true then some (D.bl (eqDD (nd n (46, 46)) (nd n (46, 46)))) else none) = _
  rw [e, eqDD_refl e]
  rfl
structure Set (l : List L3) (cs gs : List Nat) : Prop where
  ll : l.length ≤ 300
  cl : cs.length ≤ 7
  gl : gs.length ≤ 7
  co : ∀ c ∈ cs, Ok1 c
  go : ∀ c ∈ gs, Ok1 c
  lo : ∀ x ∈ l, Ok1 x.1
  c0 : cs ≠ []
  g0 : gs ≠ []
theorem Set.p64 {l : List L3} {cs gs : List Nat} (h : Set l cs gs) : (prs cs gs).length < 64 := by
  rw [prs_len]
  exact Nat.lt_of_le_of_lt (Nat.mul_le_mul h.cl h.gl) (by decide)
theorem Set.p0 {l : List L3} {cs gs : List Nat} (h : Set l cs gs) : 0 < (prs cs gs).length := by
  rw [prs_len]
  exact Nat.mul_pos (List.length_pos_iff.mpr h.c0) (List.length_pos_iff.mpr h.g0)
def nds (cs gs : List Nat) : Nat → List D
  | 0 => []
  | k + 1 => nds cs gs k ++ (prs cs gs).map (nd k)
theorem nds_len (cs gs : List Nat) : ∀ k, (nds cs gs k).length = k * (prs cs gs).length
  | 0 => by rw [Nat.zero_mul]; rfl
  | k + 1 => by
    unfold nds
    rw [List.length_append, nds_len cs gs k, List.length_map, Nat.succ_mul]
theorem nds_mem {cs gs : List Nat} : ∀ {k : Nat} {d : D}, d ∈ nds cs gs k → ∃ j p, p ∈ prs cs gs ∧ d = nd j p
  | 0, d, h => nomatch h
  | k + 1, d, h => by
    unfold nds at h
    rcases List.mem_append.mp h with h | h
    · exact nds_mem h
    · obtain ⟨p, hp, rfl⟩ := List.mem_map.mp h
      exact ⟨k, p, hp, rfl⟩
def eR (n : Nat) (l : List L3) (cs gs : List Nat) (P : D) (a5 a6 a7 a8 a9 a10 a11 a12 a13 : Option D) : DEnv := [some (.ob n), some (.lst (l.map dL)), some (.lst (cs.map st)), some (.lst (gs.map st)), some P, a5, a6, a7, a8, a9, a10, a11, a12, a13]
def B_in : MS := msSet 8 (mBin gAdd (mVar 8) (mComp (mIter (mVar 3)) 1 [6, 9] (mgN 0) mYes (mTup (maCons (mVar 1) (maCons (mTup (maCons (mVar 2) (maCons (mVar 0) maNil))) maNil)))))
def B_at : MS := (msSeq (msSet 7 (mMeth "Shade" "nodes_at" c_Shade_nodes_at (mG (mVar 0)) (maCons (mVar 6) maNil)))
    (msSeq (msSet 8 (mLst maNil))
    (msSeq (msFor (mIter (mVar 2)) (mgN 9) B_in)
    (msSeq (msIf (mtOr (mtNot (mTru (mIsi "list" (mVar 7)))) (mTest (mBin gNe (mCallB gSortN (maCons (mVar 7) maNil)) (mCallB gSortN (maCons (mVar 8) maNil))))) (msRet (mC (.bl false))) msNil)
    (msSeq (msSet 5 (mBin gAdd (mVar 5) (mVar 8)))
    (msClear 7))))))
section
variable {O : Store} {n : Nat} {l : List L3} {cs gs : List Nat} {P : D}
theorem in_loop (k : Nat) (hg : gs.length ≤ 7) (hc : cs.length ≤ 7) (a5 a7 a9 a10 a11 a12 a13 : Option D) : ∃ x, floop (mgN 9) B_in (cs.map st) (eR n l cs gs P a5 (some (.int (k : Int))) a7 (some (.lst [])) a9 a10 a11 a12 a13) O = .nx (eR n l cs gs P a5 (some (.int (k : Int))) a7 (some (.lst ((prs cs gs).map (nd k)))) x a10 a11 a12 a13) O := by
  have hp : ∀ i, (prs (cs.take i) gs).length ≤ 100 := fun i => by
    rw [prs_len, List.length_take]
    exact Nat.le_trans (Nat.mul_le_mul (Nat.le_trans (Nat.min_le_right _ _) hc) hg) (by decide)
  obtain ⟨ρ', O', e, _, hO, x, hx⟩ := floop_ind (g := mgN 9) (b := B_in)
    (fun i ρ O' => i ≤ cs.length ∧ O' = O ∧ ∃ x, ρ = eR n l cs gs P a5 (some (.int (k : Int))) a7 (some (.lst ((prs (cs.take i) gs).map (nd k)))) x a10 a11 a12 a13) (cs.map st) 0 (eR n l cs gs P a5 (some (.int (k : Int))) a7 (some (.lst [])) a9 a10 a11 a12 a13) O ⟨Nat.zero_le _, rfl, _, rfl⟩ (by
    rintro i d ρ O' hi ⟨hle, rfl, x, rfl⟩
    rw [Nat.zero_add] at hle ⊢
    have hlt : i < cs.length := by have := (List.getElem?_eq_some_iff.mp hi).1; rwa [List.length_map] at this
    rw [List.getElem?_map, List.getElem?_eq_getElem hlt] at hi
    cases hi
    have c := cloop_mapT (g := mgN 0) (t := mYes) (m := mTup (maCons (mVar 1) (maCons (mTup (maCons (mVar 2) (maCons (mVar 0) maNil))) maNil))) (fun ρ => ∃ a, ρ = [a, some (.int (k : Int)), some (st cs[i])]) st (fun g => nd k (cs[i], g)) gs [none, some (.int (k : Int)), some (st cs[i])] O' [] ⟨_, rfl⟩ (by
      rintro g hg ρ ⟨a, rfl⟩
      exact ⟨_, rfl, ⟨_, rfl⟩, rfl, rfl⟩)
    rw [List.nil_append] at c
    have cm := comp_ok (m := mIter (mVar 3)) (own := 1) (cap := [6, 9]) (ρ := eR n l cs gs P a5 (some (.int (k : Int))) a7 (some (.lst ((prs (cs.take i) gs).map (nd k)))) (some (st cs[i])) a10 a11 a12 a13) (it_ok (l := gs.map st) rfl) (by rw [List.length_map]; omega) rfl c
    have hpi := hp i
    refine ⟨eR n l cs gs P a5 (some (.int (k : Int))) a7 (some (.lst ((prs (cs.take i) gs).map (nd k)))) (some (st cs[i])) a10 a11 a12 a13, rfl, _, _, .inl (set_ok (add_l (a := mVar 8) rfl cm (by rw [List.length_map, List.length_map]; omega))), hlt, rfl, some (st cs[i]), ?_⟩
    have ep : (prs (cs.take i) gs).map (nd k) ++ gs.map (fun g => nd k (cs[i], g)) = (prs (cs.take (i + 1)) gs).map (nd k) := by
      rw [List.take_succ, List.getElem?_eq_getElem hlt]
      show _ = (prs (cs.take i ++ [cs[i]]) gs).map (nd k)
      rw [prs_snoc, List.map_append, List.map_map]
      rfl
    rw [ep]
    rfl)
  rw [Nat.zero_add, List.length_map, List.take_length] at hx
  rw [hx, hO] at e
  exact ⟨x, e⟩
theorem T_ob (T : Tr O n l cs gs) : ∃ fs, O[n]? = some (.ins "Shade" fs) ∧ (∀ m : Str, m = "first_node" ∨ m = "last_at" ∨ m = "nodes_at" ∨ m = "moves_from" ∨ m = "is_end" → (fs.lookup m).isNone = true) := by
  obtain ⟨m, h1, _⟩ := T.m
  refine ⟨_, h1, fun m hm => ?_⟩
  rcases hm with rfl | rfl | rfl | rfl | rfl <;> rfl
theorem at_body (T : Tr O n l cs gs) (S0 : Set l cs gs) (k : Nat) (hk : k ≤ l.length) (a7 a8 a9 a10 a11 a12 a13 : Option D) : ∃ x7 x8 x9, B_at (eR n l cs gs P (some (.lst (nds cs gs k))) (some (.int (k : Int))) a7 a8 a9 a10 a11 a12 a13) O = .nx (eR n l cs gs P (some (.lst (nds cs gs (k + 1)))) (some (.int (k : Int))) x7 x8 x9 a10 a11 a12 a13) O := by
  obtain ⟨fs, ob, nm⟩ := T_ob T
  have p64 := S0.p64
  obtain ⟨r, sr, sn⟩ := srtN p64 S0.co S0.go k
  obtain ⟨x, ei⟩ := in_loop (O := O) (n := n) (l := l) (P := P) k S0.gl S0.cl (some (.lst (nds cs gs k))) (some (.lst ((prs cs gs).map (nd k)))) a9 a10 a11 a12 a13
  have hl := S0.ll
  refine ⟨some (.lst []), some (.lst ((prs cs gs).map (nd k))), x, ?_⟩
  unfold B_at
  have s7 : msSet 7 (mMeth "Shade" "nodes_at" c_Shade_nodes_at (mG (mVar 0)) (maCons (mVar 6) maNil)) (eR n l cs gs P (some (.lst (nds cs gs k))) (some (.int (k : Int))) a7 a8 a9 a10 a11 a12 a13) O = .nx (eR n l cs gs P (some (.lst (nds cs gs k))) (some (.int (k : Int))) (some (.lst ((prs cs gs).map (nd k)))) a8 a9 a10 a11 a12 a13) O := by
    refine set_ok (i := 7) (ρ := eR n l cs gs P (some (.lst (nds cs gs k))) (some (.int (k : Int))) a7 a8 a9 a10 a11 a12 a13) ?_
    rw [meth_ok (n := n) (ds := [.int (k : Int)]) rfl ob (nm _ (.inr (.inr (.inl rfl)))) (ma1 rfl)]
    exact e_nodes T (by omega) k
  rw [seqN s7]
  rw [seqN (show msSet 8 (mLst maNil) (eR n l cs gs P (some (.lst (nds cs gs k))) (some (.int (k : Int))) (some (.lst ((prs cs gs).map (nd k)))) a8 a9 a10 a11 a12 a13) O = .nx (eR n l cs gs P (some (.lst (nds cs gs k))) (some (.int (k : Int))) (some (.lst ((prs cs gs).map (nd k)))) (some (.lst [])) a9 a10 a11 a12 a13) O from rfl)]
  rw [seqN (show msFor (mIter (mVar 2)) (mgN 9) B_in (eR n l cs gs P (some (.lst (nds cs gs k))) (some (.int (k : Int))) (some (.lst ((prs cs gs).map (nd k)))) (some (.lst [])) a9 a10 a11 a12 a13) O = _ from by rw [ms_for, it_ok (l := cs.map st) rfl, forF_ok]; exact ei)]
  have i7 : mtNot (mTru (mIsi "list" (mVar 7))) (eR n l cs gs P (some (.lst (nds cs gs k))) (some (.int (k : Int))) (some (.lst ((prs cs gs).map (nd k)))) (some (.lst ((prs cs gs).map (nd k)))) x a10 a11 a12 a13) O = .ok false O := nt_no (by rw [isi_ok (d := .lst ((prs cs gs).map (nd k))) (t := "list") rfl rfl, isTy_11])
  have q8 : mTest (mBin gNe (mCallB gSortN (maCons (mVar 7) maNil)) (mCallB gSortN (maCons (mVar 8) maNil))) (eR n l cs gs P (some (.lst (nds cs gs k))) (some (.int (k : Int))) (some (.lst ((prs cs gs).map (nd k)))) (some (.lst ((prs cs gs).map (nd k)))) x a10 a11 a12 a13) O = .ok false O :=
    test_ok (bin_ok (callB_ok (ma1 (x := .lst ((prs cs gs).map (nd k))) rfl) sr) (callB_ok (ma1 (x := .lst ((prs cs gs).map (nd k))) rfl) sr) sn)
  rw [seqN (if_noN (or_f i7 q8))]
  have hnl := nds_len cs gs k
  have hb : (nds cs gs k).length ≤ 300 * 63 := by
    rw [hnl]
    exact Nat.mul_le_mul (by omega) (by omega)
  have s5 := set_ok (i := 5) (ρ := eR n l cs gs P (some (.lst (nds cs gs k))) (some (.int (k : Int))) (some (.lst ((prs cs gs).map (nd k)))) (some (.lst ((prs cs gs).map (nd k)))) x a10 a11 a12 a13) (O := O) (add_l (a := mVar 5) (b := mVar 8) (l := nds cs gs k) (m := (prs cs gs).map (nd k)) rfl rfl (by rw [List.length_map]; omega))
  rw [seqN s5]
  rfl
end
theorem whole_ok (a : Int) (O : Store) : c_law_whole [.int a] O = .ok (.bl true) O := by
  show funF (b_law_whole [some (.int a)] O) = _
  unfold b_law_whole
  rw [ms_ret, m_andV, isi_ok (m := mVar 0) (d := .int a) (t := "int") rfl rfl, bind_ok', isTy_8]
  rfl
theorem truth_ok (b : Bool) (O : Store) : c_law_truth [.bl b, .bl b] O = .ok (.bl true) O := by
  show funF (b_law_truth [some (.bl b), some (.bl b)] O) = _
  unfold b_law_truth
  rw [ms_ret, m_andV, isi_ok (m := mVar 0) (d := .bl b) (t := "bool") rfl rfl, bind_ok', isTy_10]
  show funF (retF (mBin gEq (mVar 0) (mVar 1) [some (.bl b), some (.bl b)] O)) = _
  rw [bin_ok (x := .bl b) (y := .bl b) (z := .bl true) rfl rfl (by rw [deref_bl, gEq_b, decide_eq_true rfl])]
  rfl
def B_w : MS := msIf (mtOr (mtNot (mTru (mIsi "tuple" (mVar 13)))) (mtNot (mTru (mCall c_law_whole (maCons (mBin gIx (mVar 13) (mC (.int 0))) maNil))))) (msRet (mC (.bl false))) msNil
def B_pk : MS := (msSeq (msSet 11 (mBin gIx (mVar 5) (mBin gMod (mVar 10) (mCallB gLen (maCons (mVar 5) maNil)))))
    (msSeq (msSet 12 (mMeth "Shade" "moves_from" c_Shade_moves_from (mG (mVar 0)) (maCons (mVar 11) maNil)))
    (msSeq (msIf (mtOr (mtNot (mTru (mIsi "list" (mVar 12)))) (mTest (mBin gNe (mCallB gSortN (maCons (mVar 12) maNil)) (mCallB gSortN (maCons (mCall c_law_due (maCons (mVar 1) (maCons (mVar 2) (maCons (mVar 3) (maCons (mVar 11) maNil))))) maNil))))) (msRet (mC (.bl false))) msNil)
    (msSeq (msPro 12 [0, 1, 2, 3, 4] (msFor (mIter (mVar 12)) (mgN 13) B_w))
    (msSeq (msApp 12 (mTup (maCons (mC (.int 0)) (maCons (mC (.str [122])) (maCons (mVar 11) maNil)))))
    (msIf (mtNot (mTru (mCall c_law_truth (maCons (mMeth "Shade" "is_end" c_Shade_is_end (mG (mVar 0)) (maCons (mVar 11) maNil)) (maCons (mBin gEq (mVar 11) (mTup (maCons (mCallB gLen (maCons (mVar 1) maNil)) (maCons (mTup (maCons (mC (.str [46])) (maCons (mC (.str [46])) maNil))) maNil)))) maNil))))) (msRet (mC (.bl false))) msNil))))))
section
variable {O : Store} {n : Nat} {l : List L3} {cs gs : List Nat} {P : D}
theorem w_loop (ms : List D) (h : ∀ d ∈ ms, ∃ a r, d = .tup (.int a :: r)) (a5 a6 a7 a8 a9 a10 a11 a12 a13 : Option D) : ∃ x, floop (mgN 13) B_w ms (eR n l cs gs P a5 a6 a7 a8 a9 a10 a11 a12 a13) O = .nx (eR n l cs gs P a5 a6 a7 a8 a9 a10 a11 a12 x) O := by
  induction ms generalizing a13 with
  | nil => exact ⟨a13, rfl⟩
  | cons d ms ih =>
    obtain ⟨a, r, rfl⟩ := h d List.mem_cons_self
    obtain ⟨x, e⟩ := ih (fun d hd => h d (List.mem_cons_of_mem _ hd)) (some (.tup (.int a :: r)))
    refine ⟨x, ?_⟩
    unfold floop
    show (match B_w (eR n l cs gs P a5 a6 a7 a8 a9 a10 a11 a12 (some (.tup (.int a :: r)))) O with
      | .nx ρ2 O2 => floop (mgN 13) B_w ms ρ2 O2
      | .ct ρ2 O2 => floop (mgN 13) B_w ms ρ2 O2
      | .bk ρ2 O2 => .nx ρ2 O2
      | r => r) = _
    have t1 : mtNot (mTru (mIsi "tuple" (mVar 13))) (eR n l cs gs P a5 a6 a7 a8 a9 a10 a11 a12 (some (.tup (.int a :: r)))) O = .ok false O := nt_no (by
      rw [isi_ok (d := .tup (.int a :: r)) (t := "tuple") rfl rfl]
      rfl)
    have t2 : mtNot (mTru (mCall c_law_whole (maCons (mBin gIx (mVar 13) (mC (.int 0))) maNil))) (eR n l cs gs P a5 a6 a7 a8 a9 a10 a11 a12 (some (.tup (.int a :: r)))) O = .ok false O := nt_no (by
      have i0 : mBin gIx (mVar 13) (mC (.int 0)) (eR n l cs gs P a5 a6 a7 a8 a9 a10 a11 a12 (some (.tup (.int a :: r)))) O = .ok (.int a) O := bin_ok (x := .tup (.int a :: r)) (y := .int 0) rfl rfl (by
        rw [deref_int]
        show atI (.int a :: r) ((0 : Nat) : Int) = _
        rw [atI_ofNat]
        rfl)
      rw [call_ok (ma1 i0)]
      exact whole_ok a O)
    have b : B_w (eR n l cs gs P a5 a6 a7 a8 a9 a10 a11 a12 (some (.tup (.int a :: r)))) O = .nx (eR n l cs gs P a5 a6 a7 a8 a9 a10 a11 a12 (some (.tup (.int a :: r)))) O := if_noN (or_f t1 t2)
    rw [b]
    exact e
theorem pk_body (T : Tr O n l cs gs) (S0 : Set l cs gs) (pk : Int) (a6 a7 a8 a9 a11 a12 a13 : Option D) : ∃ x11 x12 x13, B_pk (eR n l cs gs P (some (.lst (nds cs gs (l.length + 1)))) a6 a7 a8 a9 (some (.int pk)) a11 a12 a13) O = .nx (eR n l cs gs P (some (.lst (nds cs gs (l.length + 1)))) a6 a7 a8 a9 (some (.int pk)) x11 x12 x13) O := by
  obtain ⟨fs, ob, nm⟩ := T_ob T
  have p0 := S0.p0
  generalize hN : nds cs gs (l.length + 1) = N
  have hNl : 0 < N.length := by rw [← hN, nds_len]; exact Nat.mul_pos (Nat.succ_pos _) p0
  obtain ⟨d, hd, hm⟩ := atI_in (xs := N) (i := pk % (N.length : Int)) (Int.emod_nonneg _ (by omega)) (Int.emod_lt_of_pos _ (by omega))
  rw [← hN] at hm
  obtain ⟨k, p, hp, rfl⟩ := nds_mem hm
  obtain ⟨h1, h2⟩ := prs_mem.mp hp
  have o1 := S0.co _ h1
  have o2 := S0.go _ h2
  obtain ⟨r, sr, sn⟩ := srtM (l := l) (k := k) (p := p) (by have := S0.cl; omega) (by have := S0.gl; omega) S0.co S0.go S0.lo o1 o2
  obtain ⟨b, eb⟩ := eq_nd k p l.length o1 o2
  have hcl := S0.cl
  have hgl := S0.gl
  have hml := mvs_len l cs gs k p
  have hF := fun d (hd : d ∈ mvs l cs gs k p) => (mvs_F S0.co S0.go S0.lo o1 o2 hd).1
  have emf := e_mf T (by omega) (by omega) k p
  have edu := due_ok l cs gs (by omega) (by omega) k p O
  generalize mvs l cs gs k p = ms at sr hml hF emf edu
  obtain ⟨x13, ew⟩ := w_loop (O := O) (n := n) (l := l) (cs := cs) (gs := gs) (P := P) ms (fun d hd => by obtain ⟨a, s, rfl⟩ := hF d hd; exact ⟨a, _, rfl⟩) (some (.lst N)) a6 a7 a8 a9 (some (.int pk)) (some (nd k p)) (some (.lst ms)) a13
  refine ⟨some (nd k p), some (.lst (ms ++ [.tup [.int 0, .str [122], nd k p]])), x13, ?_⟩
  unfold B_pk
  have s11 : msSet 11 (mBin gIx (mVar 5) (mBin gMod (mVar 10) (mCallB gLen (maCons (mVar 5) maNil)))) (eR n l cs gs P (some (.lst N)) a6 a7 a8 a9 (some (.int pk)) a11 a12 a13) O = .nx (eR n l cs gs P (some (.lst N)) a6 a7 a8 a9 (some (.int pk)) (some (nd k p)) a12 a13) O :=
    set_ok (i := 11) (ρ := eR n l cs gs P (some (.lst N)) a6 a7 a8 a9 (some (.int pk)) a11 a12 a13) (bin_ok (x := .lst N) rfl (mod_ok (i := pk) (j := (N.length : Int)) rfl (len_ok (l := N) rfl) (by omega)) hd)
  rw [seqN s11]
  have s12 : msSet 12 (mMeth "Shade" "moves_from" c_Shade_moves_from (mG (mVar 0)) (maCons (mVar 11) maNil)) (eR n l cs gs P (some (.lst N)) a6 a7 a8 a9 (some (.int pk)) (some (nd k p)) a12 a13) O = .nx (eR n l cs gs P (some (.lst N)) a6 a7 a8 a9 (some (.int pk)) (some (nd k p)) (some (.lst ms)) a13) O := by
    refine set_ok (i := 12) (ρ := eR n l cs gs P (some (.lst N)) a6 a7 a8 a9 (some (.int pk)) (some (nd k p)) a12 a13) ?_
    rw [meth_ok (n := n) (ds := [nd k p]) rfl ob (nm _ (.inr (.inr (.inr (.inl rfl))))) (ma1 rfl)]
    exact emf
  rw [seqN s12]
  have i12 : mtNot (mTru (mIsi "list" (mVar 12))) (eR n l cs gs P (some (.lst N)) a6 a7 a8 a9 (some (.int pk)) (some (nd k p)) (some (.lst ms)) a13) O = .ok false O := nt_no (by rw [isi_ok (d := .lst ms) (t := "list") rfl rfl, isTy_11])
  have q12 : mTest (mBin gNe (mCallB gSortN (maCons (mVar 12) maNil)) (mCallB gSortN (maCons (mCall c_law_due (maCons (mVar 1) (maCons (mVar 2) (maCons (mVar 3) (maCons (mVar 11) maNil))))) maNil))) (eR n l cs gs P (some (.lst N)) a6 a7 a8 a9 (some (.int pk)) (some (nd k p)) (some (.lst ms)) a13) O = .ok false O :=
    test_ok (bin_ok (callB_ok (ma1 (x := .lst ms) rfl) sr) (callB_ok (ma1 (x := .lst ms) (by rw [call_ok (ds := [.lst (l.map dL), .lst (cs.map st), .lst (gs.map st), nd k p]) rfl]; exact edu)) sr) sn)
  rw [seqN (if_noN (or_f i12 q12))]
  rw [seqN (show msPro 12 [0, 1, 2, 3, 4] (msFor (mIter (mVar 12)) (mgN 13) B_w) (eR n l cs gs P (some (.lst N)) a6 a7 a8 a9 (some (.int pk)) (some (nd k p)) (some (.lst ms)) a13) O = _ from by
    show msFor (mIter (mVar 12)) (mgN 13) B_w (eR n l cs gs P (some (.lst N)) a6 a7 a8 a9 (some (.int pk)) (some (nd k p)) (some (.lst ms)) a13) O = _
    rw [ms_for, it_ok (l := ms) rfl, forF_ok]
    exact ew)]
  have s13 := app_ok (i := 12) (m := mTup (maCons (mC (.int 0)) (maCons (mC (.str [122])) (maCons (mVar 11) maNil)))) (ρ := eR n l cs gs P (some (.lst N)) a6 a7 a8 a9 (some (.int pk)) (some (nd k p)) (some (.lst ms)) x13) (O := O) (d := .tup [.int 0, .str [122], nd k p]) (ds := ms) rfl rfl (by omega)
  rw [seqN s13]
  refine not_no ?_
  have m1 : mMeth "Shade" "is_end" c_Shade_is_end (mG (mVar 0)) (maCons (mVar 11) maNil) (eR n l cs gs P (some (.lst N)) a6 a7 a8 a9 (some (.int pk)) (some (nd k p)) (some (.lst (ms ++ [.tup [.int 0, .str [122], nd k p]]))) x13) O = .ok (.bl b) O := by
    rw [meth_ok (n := n) (ds := [nd k p]) rfl ob (nm _ (.inr (.inr (.inr (.inr rfl))))) (ma1 rfl)]
    exact e_end T (nd k p) (.bl b) eb rfl
  have m2 : mBin gEq (mVar 11) (mTup (maCons (mCallB gLen (maCons (mVar 1) maNil)) (maCons (mTup (maCons (mC (.str [46])) (maCons (mC (.str [46])) maNil))) maNil))) (eR n l cs gs P (some (.lst N)) a6 a7 a8 a9 (some (.int pk)) (some (nd k p)) (some (.lst (ms ++ [.tup [.int 0, .str [122], nd k p]]))) x13) O = .ok (.bl b) O := by
    have ll := len_ok (m := mVar 1) (ρ := eR n l cs gs P (some (.lst N)) a6 a7 a8 a9 (some (.int pk)) (some (nd k p)) (some (.lst (ms ++ [.tup [.int 0, .str [122], nd k p]]))) x13) (O := O) (l := l.map dL) rfl
    rw [List.length_map] at ll
    exact bin_ok (x := nd k p) (y := nd l.length (46, 46)) rfl (tupA (maS ll (ma1 (x := pr (46, 46)) rfl)) (show (2 : Nat) ≤ 1000000 by decide)) eb
  show mCall c_law_truth _ (eR n l cs gs P (some (.lst N)) a6 a7 a8 a9 (some (.int pk)) (some (nd k p)) (some (.lst (ms ++ [.tup [.int 0, .str [122], nd k p]]))) x13) O = _
  rw [call_ok (maS m1 (ma1 m2))]
  exact truth_ok b O
end
theorem isC_ok {c : Str} {m : L2.M D} {ρ : DEnv} {O : Store} {n : Nat} {fs : List (Str × D)} (h : m ρ O = .ok (.ob n) O) (hO : O[n]? = some (.ins c fs)) : mIsC c m ρ O = .ok (.bl true) O := by
  unfold mIsC
  rw [h, bind_ok']
  dsimp only
  rw [hO]
  dsimp only
  rw [if_pos rfl]
theorem ne_end (n : Nat) : gNe (nd n (46, 46)) (nd n (46, 46)) = some (.bl false) := by
  have o46 : Ok1 46 := by unfold Ok1; decide
  have h := okN (k := n) (p := (46, 46)) o46 o46
  have e : okE (nd n (46, 46)) = true := by
    unfold okE okD
    rw [h.pl, h.ly, decide_eq_true (Nat.le_trans h.dp (by decide))]
    rfl
  show (if (okE (nd n (46, 46)) && okE (nd n (46, 46))) = true then some (D.bl (!eqDD (nd n (46, 46)) (nd n (46, 46)))) else none) = _
  rw [e, eqDD_refl e]
  rfl
theorem e_right {O : Store} {n : Nat} {l : List L3} {cs gs : List Nat} (T : Tr O n l cs gs) (S0 : Set l cs gs) (ps : List Int) (hps : ps.length ≤ 1000) : c_law_right [.ob n, .lst (l.map dL), .lst (cs.map st), .lst (gs.map st), .lst (ps.map D.int)] O = .ok (.bl true) O := by
  obtain ⟨fs, ob, nm⟩ := T_ob T
  have hl := S0.ll
  obtain ⟨P, hP⟩ : ∃ P, P = D.lst (ps.map D.int) := ⟨_, rfl⟩
  rw [← hP]
  show funF (b_law_right (eR n l cs gs P none none none none none none none none none) O) = _
  unfold b_law_right
  have c1 : mtNot (mTru (mIsC "Shade" (mG (mVar 0)))) (eR n l cs gs P none none none none none none none none none) O = .ok false O := nt_no (isC_ok (n := n) rfl ob)
  have c2 : mTest (mBin gNe (mMeth "Shade" "first_node" c_Shade_first_node (mG (mVar 0)) maNil) (mTup (maCons (mC (.int 0)) (maCons (mTup (maCons (mC (.str [46])) (maCons (mC (.str [46])) maNil))) maNil)))) (eR n l cs gs P none none none none none none none none none) O = .ok false O := by
    refine test_ok (bin_ok (x := nd 0 (46, 46)) (y := nd 0 (46, 46)) ?_ rfl (ne_end 0))
    rw [meth_ok (n := n) (ds := []) rfl ob (nm _ (.inl rfl)) rfl]
    exact e_first
  have c3 : mTest (mBin gNe (mMeth "Shade" "last_at" c_Shade_last_at (mG (mVar 0)) maNil) (mCallB gLen (maCons (mVar 1) maNil))) (eR n l cs gs P none none none none none none none none none) O = .ok false O := by
    have ll := len_ok (m := mVar 1) (ρ := eR n l cs gs P none none none none none none none none none) (O := O) (l := l.map dL) rfl
    rw [List.length_map] at ll
    refine test_ok (bin_ok (x := .int (l.length : Int)) (y := .int (l.length : Int)) ?_ ll ?_)
    · rw [meth_ok (n := n) (ds := []) rfl ob (nm _ (.inr (.inl rfl))) rfl]
      exact e_last T
    · rw [deref_int, gNe_i, decide_eq_true rfl]
      rfl
  rw [seqN (if_noN (or_f c1 (or_f c2 c3)))]
  rw [seqN (show msSet 5 (mLst maNil) (eR n l cs gs P none none none none none none none none none) O = .nx (eR n l cs gs P (some (.lst (nds cs gs 0))) none none none none none none none none) O from rfl)]
  have rg : mRng1 (maCons (mBin gAdd (mCallB gLen (maCons (mVar 1) maNil)) (mC (.int 1))) maNil) (eR n l cs gs P (some (.lst (nds cs gs 0))) none none none none none none none none) O = .ok (rangeD 0 (l.length + 1)) O := by
    have ll := len_ok (m := mVar 1) (ρ := eR n l cs gs P (some (.lst (nds cs gs 0))) none none none none none none none none) (O := O) (l := l.map dL) rfl
    rw [List.length_map] at ll
    exact rng_ok (n := l.length + 1) (add_i ll (j := 1) rfl) (by omega)
  obtain ⟨ρ1, O1, e1, hi1, hO1, a6, a7, a8, a9, hρ1⟩ := floop_ind (g := mgN 6) (b := B_at)
    (fun i ρ O' => i ≤ l.length + 1 ∧ O' = O ∧ ∃ a6 a7 a8 a9, ρ = eR n l cs gs P (some (.lst (nds cs gs i))) a6 a7 a8 a9 none none none none) (rangeD 0 (l.length + 1)) 0 (eR n l cs gs P (some (.lst (nds cs gs 0))) none none none none none none none none) O ⟨Nat.zero_le _, rfl, _, _, _, _, rfl⟩ (by
    rintro i d ρ O' hi ⟨hle, rfl, a6, a7, a8, a9, rfl⟩
    obtain ⟨hlt, rfl⟩ := rngX hi
    rw [Nat.zero_add] at hle ⊢
    obtain ⟨x7, x8, x9, eb⟩ := at_body (P := P) T S0 i (by omega) a7 a8 a9 none none none none
    exact ⟨_, rfl, _, _, .inl eb, hlt, rfl, _, _, _, _, rfl⟩)
  rw [Nat.zero_add, rangeD_len] at hρ1
  rw [hρ1, hO1] at e1
  refine (congrArg funF (seqN (show msFor _ (mgN 6) B_at (eR n l cs gs P (some (.lst (nds cs gs 0))) none none none none none none none none) O = _ from by rw [ms_for, rg, forF_ok]; exact e1))).trans ?_
  have it2 : mIter (mBin gAdd (mVar 4) (mLst (maCons (mC (.int 0)) maNil))) (eR n l cs gs P (some (.lst (nds cs gs (l.length + 1)))) a6 a7 a8 a9 none none none none) O = .ok ((ps ++ [0]).map D.int) O := by
    refine it_ok ?_
    rw [List.map_append]
    exact add_l (a := mVar 4) (l := ps.map D.int) (m := [.int 0]) (by rw [hP]; rfl) rfl (by rw [List.length_map]; show _ + 1 ≤ _; omega)
  obtain ⟨ρ2, O2, e2, hO2, a10, a11, a12, a13, hρ2⟩ := floop_ind (g := mgN 10) (b := B_pk)
    (fun _ ρ O' => O' = O ∧ ∃ a10 a11 a12 a13, ρ = eR n l cs gs P (some (.lst (nds cs gs (l.length + 1)))) a6 a7 a8 a9 a10 a11 a12 a13) ((ps ++ [0]).map D.int) 0 (eR n l cs gs P (some (.lst (nds cs gs (l.length + 1)))) a6 a7 a8 a9 none none none none) O ⟨rfl, _, _, _, _, rfl⟩ (by
    rintro i d ρ O' hi ⟨rfl, a10, a11, a12, a13, rfl⟩
    obtain ⟨pk, _, rfl⟩ := List.mem_map.mp (List.mem_of_getElem? hi)
    obtain ⟨x11, x12, x13, eb⟩ := pk_body (P := P) T S0 pk a6 a7 a8 a9 a11 a12 a13
    exact ⟨_, rfl, _, _, .inl eb, rfl, _, _, _, _, rfl⟩)
  rw [hρ2, hO2] at e2
  refine (congrArg funF (seqN (show msFor _ (mgN 10) B_pk (eR n l cs gs P (some (.lst (nds cs gs (l.length + 1)))) a6 a7 a8 a9 none none none none) O = _ from by rw [ms_for, it2, forF_ok]; exact e2))).trans ?_
  have ll := len_ok (m := mVar 1) (ρ := eR n l cs gs P (some (.lst (nds cs gs (l.length + 1)))) a6 a7 a8 a9 a10 a11 a12 a13) (O := O) (l := l.map dL) rfl
  rw [List.length_map] at ll
  have me : mMeth "Shade" "is_end" c_Shade_is_end (mG (mVar 0)) (maCons (mTup (maCons (mCallB gLen (maCons (mVar 1) maNil)) (maCons (mTup (maCons (mC (.str [46])) (maCons (mC (.str [46])) maNil))) maNil))) maNil) (eR n l cs gs P (some (.lst (nds cs gs (l.length + 1)))) a6 a7 a8 a9 a10 a11 a12 a13) O = .ok (.bl true) O := by
    rw [meth_ok (n := n) (ds := [nd l.length (46, 46)]) rfl ob (nm _ (.inr (.inr (.inr (.inr rfl))))) (ma1 (tupA (maS ll (ma1 (x := pr (46, 46)) rfl)) (show (2 : Nat) ≤ 1000000 by decide)))]
    exact e_end T _ (.bl true) (eq_end _) rfl
  rw [ms_ret, bin_ok me (y := .bl true) (z := .bl true) rfl rfl]
  rfl
theorem e_cell (ns : List Int) (k : Nat) (O : Store) : c_law_cell_at [.lst (ns.map D.int), .int k] O = .ok (.int (ns.getD k 0)) O := by
  by_cases h : k < ns.length
  · simp [c_law_cell_at, b_law_cell_at, gIx_l, h]
  · simp [c_law_cell_at, b_law_cell_at, h]
theorem ix_str {L : List Nat} {r : Int} (hL : L.length ≤ 1000000) (h0 : 0 ≤ r) (h1 : r < L.length) : ∃ s, gIx (.str L) (.int r) = some (st s) ∧ s ∈ L := by
  obtain ⟨x, hx, hm⟩ := atI_in (xs := L) h0 h1
  refine ⟨x, ?_, hm⟩
  rw [gIx_s, if_pos hL, hx]
  rfl
theorem ix_st {I : List Nat} {r : Int} (h0 : 0 ≤ r) (h1 : r < I.length) : ∃ c, gIx (.lst (I.map st)) (.int r) = some (st c) ∧ c ∈ I := by
  obtain ⟨x, hx, hm⟩ := atI_in (xs := I.map st) h0 (by rw [List.length_map]; exact h1)
  obtain ⟨c, hc, rfl⟩ := List.mem_map.mp hm
  exact ⟨c, hx, hc⟩
theorem fdiv_ok {a b : L2.M D} {ρ : DEnv} {O : Store} {i j : Int} (ha : a ρ O = .ok (.int i) O) (hb : b ρ O = .ok (.int j) O) (hj : 0 < j) (hj2 : j < 1073741824) : mBin gFdiv a b ρ O = .ok (.int (i / j)) O := bin_ok ha hb (by rw [deref_int, deref_int, gFdiv_i, if_pos ⟨hj, hj2⟩])
theorem e_colours (c : Int) (m : Nat) (hm : m ≤ 100) (O : Store) : ∃ cols : List Nat, cols.length = m ∧ (∀ x ∈ cols, Ok1 x) ∧ c_law_colours [.int c, .int (m : Int)] O = .ok (.lst ((46 :: cols).map st)) O := by
  have y0 := Int.emod_nonneg (c / 8) (show (4 : Int) ≠ 0 by decide)
  have y1 := Int.emod_lt_of_pos (c / 8) (show (0 : Int) < 4 by decide)
  obtain ⟨s, hs, hs0, hs1⟩ : ∃ s : Int, gIx (.lst [.int 1, .int 3, .int 5, .int 7]) (.int (c / 8 % 4)) = some (.int s) ∧ 0 ≤ s ∧ s ≤ 7 := by
    have h : c / 8 % 4 = 0 ∨ c / 8 % 4 = 1 ∨ c / 8 % 4 = 2 ∨ c / 8 % 4 = 3 := by omega
    rcases h with h | h | h | h <;> rw [h]
    · exact ⟨1, rfl, by decide, by decide⟩
    · exact ⟨3, rfl, by decide, by decide⟩
    · exact ⟨5, rfl, by decide, by decide⟩
    · exact ⟨7, rfl, by decide, by decide⟩
  have hr : ∀ k : Nat, ∃ x, gIx (.str [97, 98, 99, 100, 101, 102, 103, 104]) (.int ((c + (k : Int) * s) % 8)) = some (st x) ∧ Ok1 x := fun k => by
    obtain ⟨x, e, hx⟩ := ix_str (L := [97, 98, 99, 100, 101, 102, 103, 104]) (r := (c + (k : Int) * s) % 8) (by decide) (Int.emod_nonneg _ (by decide)) (Int.emod_lt_of_pos _ (by decide))
    have : ∀ y ∈ [97, 98, 99, 100, 101, 102, 103, 104], Ok1 y := by unfold Ok1; decide
    exact ⟨x, e, this x hx⟩
  have hf : ∃ f : Nat → Nat, ∀ k : Nat, gIx (.str [97, 98, 99, 100, 101, 102, 103, 104]) (.int ((c + (k : Int) * s) % 8)) = some (st (f k)) ∧ Ok1 (f k) := ⟨fun k => (hr k).choose, fun k => (hr k).choose_spec⟩
  obtain ⟨f, hf⟩ := hf
  refine ⟨(List.range m).map f, by rw [List.length_map, List.length_range], fun x hx => ?_, ?_⟩
  · obtain ⟨k, _, rfl⟩ := List.mem_map.mp hx
    exact (hf k).2
  · show funF (b_law_colours [some (.int c), some (.int (m : Int)), none] O) = _
    unfold b_law_colours
    have s2 := set_ok (i := 2) (bin_ok (g := gIx) (a := mLst (maCons (mC (.int 1)) (maCons (mC (.int 3)) (maCons (mC (.int 5)) (maCons (mC (.int 7)) maNil))))) (x := .lst [.int 1, .int 3, .int 5, .int 7]) (ρ := [some (.int c), some (.int (m : Int)), none]) (O := O) rfl (mod_ok (j := 4) (fdiv_ok (a := mVar 0) (i := c) (b := mC (.int 8)) (j := 8) rfl rfl (by decide) (by decide)) (b := mC (.int 4)) rfl (by decide)) hs)
    rw [seqN s2]
    have rd : rangeD 0 m = (List.range m).map fun i : Nat => D.int ((i : Nat) : Int) := by unfold rangeD; simp
    have cl := cloop_mapT (g := mgN 0) (t := mYes) (m := mBin gIx (mC (.str [97, 98, 99, 100, 101, 102, 103, 104])) (mBin gMod (mBin gAdd (mVar 1) (mBin gMul (mVar 0) (mVar 2))) (mC (.int 8)))) (fun ρ => ∃ a, ρ = [a, some (.int c), some (.int s)]) (fun i : Nat => D.int ((i : Nat) : Int)) (fun i => st (f i)) (List.range m) [none, some (.int c), some (.int s)] O [] ⟨_, rfl⟩ (by
      rintro k hk ρ ⟨a, rfl⟩
      have hk' := List.mem_range.mp hk
      refine ⟨[some (.int (k : Int)), some (.int c), some (.int s)], rfl, ⟨_, rfl⟩, rfl, ?_⟩
      exact bin_ok (x := .str [97, 98, 99, 100, 101, 102, 103, 104]) rfl (mod_ok (j := 8) (add_i (i := c) (a := mVar 1) rfl (bin_ok (a := mVar 0) (b := mVar 2) (x := .int (k : Int)) (y := .int s) rfl rfl (gMul_i (.inl ⟨by omega, by omega⟩)))) (b := mC (.int 8)) rfl (by decide)) (hf k).1)
    rw [List.nil_append, ← rd] at cl
    have cm := comp_ok (m := mRng1 (maCons (mVar 1) maNil)) (own := 1) (cap := [0, 2]) (ρ := [some (.int c), some (.int (m : Int)), some (.int s)]) (rng_ok (n := m) rfl (by omega)) (by rw [rangeD_len]; omega) rfl cl
    refine (congrArg funF (ret_okB (add_l (a := mLst (maCons (mC (.str [46])) maNil)) (l := [st 46]) rfl cm (by rw [List.length_map, List.length_range]; show 1 + _ ≤ _; omega)))).trans ?_
    show Res.ok (D.lst ([st 46] ++ (List.range m).map fun i => st (f i))) O = _
    rw [List.map_cons, List.map_map]
    rfl
theorem gMul_row (d : D) (w : Nat) (hw : w ≤ 1000) : gMul (.lst [d]) (.int (w : Int)) = some (.lst (List.replicate w d)) := by
  show (if -1000000 < (w : Int) ∧ (w : Int) < 1000000 ∧ [d].length * (w : Int).toNat ≤ 1000000 then some (D.lst (List.replicate (w : Int).toNat [d]).flatten) else none) = _
  rw [if_pos ⟨by omega, by omega, by simp; omega⟩]
  simp
def eK (X : D) (h : Int) (I G : List Nat) (l : List L3) (i g : Nat) (a7 a8 a9 a10 : Option D) : DEnv := [some X, some (.int h), some (.lst (I.map st)), some (.lst (G.map st)), some (.lst (l.map dL)), some (st i), some (st g), a7, a8, a9, a10]
def K1 : MS := msIf (mTest (mBin gEq (mBin gMod (mCall c_law_mix (maCons (mVar 7) (maCons (mC (.int 3)) maNil))) (mC (.int 3))) (mC (.int 0)))) (msSet 5 (mBin gIx (mVar 2) (mBin gMod (mCall c_law_mix (maCons (mVar 7) (maCons (mC (.int 4)) maNil))) (mCallB gLen (maCons (mVar 2) maNil))))) msNil
def K2 : MS := msIf (mTest (mBin gEq (mBin gMod (mCall c_law_mix (maCons (mVar 7) (maCons (mC (.int 5)) maNil))) (mC (.int 4))) (mC (.int 0)))) (msSet 6 (mBin gIx (mVar 3) (mBin gMod (mCall c_law_mix (maCons (mVar 7) (maCons (mC (.int 6)) maNil))) (mCallB gLen (maCons (mVar 3) maNil))))) msNil
def K3 : MS := msSet 8 (mCall c_law_mix (maCons (mVar 7) (maCons (mC (.int 7)) maNil)))
def K4 : MS := msSet 9 (mBin gIx (mC (.str [32, 97, 120, 91, 65, 93, 47, 46, 98, 90, 32, 91, 123, 125, 104])) (mBin gMod (mBin gFdiv (mVar 8) (mC (.int 3))) (mC (.int 15))))
def K5 : MS := msIf (mTest (mBin gEq (mBin gMod (mVar 8) (mC (.int 3))) (mC (.int 2)))) (msSet 9 (mBin gIx (mCall c_law_signs maNil) (mBin gMod (mBin gFdiv (mVar 8) (mC (.int 3))) (mC (.int 93))))) msNil
def K6 : MS := msSet 10 (mTup (maCons (mVar 9) (maCons (mBin gIx (mLst (maCons (mVar 5) (maCons (mC (.str [46])) maNil))) (mCallB gInt (maCons (mBin gEq (mVar 9) (mC (.str [32]))) maNil))) (maCons (mVar 6) maNil))))
def K7 : MS := msSet 4 (mBin gAdd (mVar 4) (mBin gMul (mLst (maCons (mVar 10) maNil)) (mBin gAdd (mC (.int 1)) (mBin gMod (mCall c_law_mix (maCons (mVar 7) (maCons (mC (.int 8)) maNil))) (mBin gIx (mLst (maCons (mC (.int 1)) (maCons (mC (.int 1)) (maCons (mC (.int 10)) (maCons (mC (.int 1)) maNil))))) (mBin gMod (mVar 1) (mC (.int 4))))))))
def B_lk : MS := msSeq K1 (msSeq K2 (msSeq K3 (msSeq K4 (msSeq K5 (msSeq K6 K7)))))
def sgs : List Nat := [32, 33, 34, 35, 36, 38, 39, 40, 41, 42, 43, 44, 45, 46, 47, 48, 49, 50, 51, 52, 53, 54, 55, 56, 57, 58, 59, 60, 61, 62, 63, 64, 65, 66, 67, 68, 69, 70, 71, 72, 73, 74, 75, 76, 77, 78, 79, 80, 81, 82, 83, 84, 85, 86, 87, 88, 89, 90, 91, 92, 93, 94, 95, 96, 97, 98, 99, 100, 101, 102, 103, 104, 105, 106, 107, 108, 109, 110, 111, 112, 113, 114, 115, 116, 117, 118, 119, 120, 121, 122, 123, 124, 125]
theorem signs_ok (O : Store) : c_law_signs [] O = .ok (.str sgs) O := rfl
theorem sgs_ok : ∀ c ∈ sgs, Ok1 c := by unfold Ok1; decide
theorem lk_body {X : D} {h : Int} {I G : List Nat} {M : Nat} (hI : I ≠ []) (hG : G ≠ []) (hM : gIx (.lst [.int 1, .int 1, .int 10, .int 1]) (.int (h % 4)) = some (.int (M : Int))) (hM0 : 0 < M) (hM1 : M ≤ 10) (l : List L3) (hl : l.length ≤ 1000) (i g : Nat) (hi : i ∈ I) (hg : g ∈ G) (h46 : 46 ∈ I) (c : Int) (a8 a9 a10 : Option D) (O : Store) :
    ∃ i' g' x m a8' a9' a10', i' ∈ I ∧ g' ∈ G ∧ Ok1 x.1 ∧ x.2.1 ∈ I ∧ x.2.2 ∈ G ∧ m ≤ M ∧ B_lk (eK X h I G l i g (some (.int c)) a8 a9 a10) O = .nx (eK X h I G (l ++ List.replicate m x) i' g' (some (.int c)) a8' a9' a10') O := by
  have il : (0 : Int) < I.length := by have := List.length_pos_iff.mpr hI; omega
  have gl : (0 : Int) < G.length := by have := List.length_pos_iff.mpr hG; omega
  obtain ⟨i', hi', e1⟩ : ∃ i', i' ∈ I ∧ K1 (eK X h I G l i g (some (.int c)) a8 a9 a10) O = .nx (eK X h I G l i' g (some (.int c)) a8 a9 a10) O := by
    have t : mTest (mBin gEq (mBin gMod (mCall c_law_mix (maCons (mVar 7) (maCons (mC (.int 3)) maNil))) (mC (.int 3))) (mC (.int 0))) (eK X h I G l i g (some (.int c)) a8 a9 a10) O = .ok (decide (mix c 3 % 3 = 0)) O := eq_ok (mod_ok (j := 3) (mx_ok (c := c) (k := 3) rfl rfl (by decide) (by decide)) rfl (by decide)) rfl
    by_cases hz : mix c 3 % 3 = 0
    · rw [decide_eq_true hz] at t
      obtain ⟨x, ex, hx⟩ := ix_st (I := I) (r := mix c 4 % (I.length : Int)) (Int.emod_nonneg _ (by omega)) (Int.emod_lt_of_pos _ il)
      have ll := len_ok (m := mVar 2) (ρ := eK X h I G l i g (some (.int c)) a8 a9 a10) (O := O) (l := I.map st) rfl
      rw [List.length_map] at ll
      exact ⟨x, hx, if_yesN t (set_ok (i := 5) (ρ := eK X h I G l i g (some (.int c)) a8 a9 a10) (bin_ok (x := .lst (I.map st)) rfl (mod_ok (mx_ok (c := c) (k := 4) rfl rfl (by decide) (by decide)) ll il) ex))⟩
    · rw [decide_eq_false hz] at t
      exact ⟨i, hi, if_noN t⟩
  obtain ⟨g', hg', e2⟩ : ∃ g', g' ∈ G ∧ K2 (eK X h I G l i' g (some (.int c)) a8 a9 a10) O = .nx (eK X h I G l i' g' (some (.int c)) a8 a9 a10) O := by
    have t : mTest (mBin gEq (mBin gMod (mCall c_law_mix (maCons (mVar 7) (maCons (mC (.int 5)) maNil))) (mC (.int 4))) (mC (.int 0))) (eK X h I G l i' g (some (.int c)) a8 a9 a10) O = .ok (decide (mix c 5 % 4 = 0)) O := eq_ok (mod_ok (j := 4) (mx_ok (c := c) (k := 5) rfl rfl (by decide) (by decide)) rfl (by decide)) rfl
    by_cases hz : mix c 5 % 4 = 0
    · rw [decide_eq_true hz] at t
      obtain ⟨x, ex, hx⟩ := ix_st (I := G) (r := mix c 6 % (G.length : Int)) (Int.emod_nonneg _ (by omega)) (Int.emod_lt_of_pos _ gl)
      have ll := len_ok (m := mVar 3) (ρ := eK X h I G l i' g (some (.int c)) a8 a9 a10) (O := O) (l := G.map st) rfl
      rw [List.length_map] at ll
      exact ⟨x, hx, if_yesN t (set_ok (i := 6) (ρ := eK X h I G l i' g (some (.int c)) a8 a9 a10) (bin_ok (x := .lst (G.map st)) rfl (mod_ok (mx_ok (c := c) (k := 6) rfl rfl (by decide) (by decide)) ll gl) ex))⟩
    · rw [decide_eq_false hz] at t
      exact ⟨g, hg, if_noN t⟩
  have e3 : K3 (eK X h I G l i' g' (some (.int c)) a8 a9 a10) O = .nx (eK X h I G l i' g' (some (.int c)) (some (.int (mix c 7))) a9 a10) O := set_ok (i := 8) (ρ := eK X h I G l i' g' (some (.int c)) a8 a9 a10) (mx_ok (c := c) (k := 7) rfl rfl (by decide) (by decide))
  obtain ⟨s, hs, e4⟩ : ∃ s, Ok1 s ∧ K4 (eK X h I G l i' g' (some (.int c)) (some (.int (mix c 7))) a9 a10) O = .nx (eK X h I G l i' g' (some (.int c)) (some (.int (mix c 7))) (some (st s)) a10) O := by
    obtain ⟨x, ex, hx⟩ := ix_str (L := [32, 97, 120, 91, 65, 93, 47, 46, 98, 90, 32, 91, 123, 125, 104]) (r := mix c 7 / 3 % 15) (by decide) (Int.emod_nonneg _ (by decide)) (Int.emod_lt_of_pos _ (by decide))
    have ok : ∀ y ∈ [32, 97, 120, 91, 65, 93, 47, 46, 98, 90, 32, 91, 123, 125, 104], Ok1 y := by unfold Ok1; decide
    exact ⟨x, ok x hx, set_ok (i := 9) (ρ := eK X h I G l i' g' (some (.int c)) (some (.int (mix c 7))) a9 a10) (bin_ok (x := .str [32, 97, 120, 91, 65, 93, 47, 46, 98, 90, 32, 91, 123, 125, 104]) rfl (mod_ok (j := 15) (fdiv_ok (j := 3) (i := mix c 7) rfl rfl (by decide) (by decide)) rfl (by decide)) ex)⟩
  obtain ⟨s', hs', e5⟩ : ∃ s', Ok1 s' ∧ K5 (eK X h I G l i' g' (some (.int c)) (some (.int (mix c 7))) (some (st s)) a10) O = .nx (eK X h I G l i' g' (some (.int c)) (some (.int (mix c 7))) (some (st s')) a10) O := by
    have t : mTest (mBin gEq (mBin gMod (mVar 8) (mC (.int 3))) (mC (.int 2))) (eK X h I G l i' g' (some (.int c)) (some (.int (mix c 7))) (some (st s)) a10) O = .ok (decide (mix c 7 % 3 = 2)) O := eq_ok (mod_ok (j := 3) (i := mix c 7) rfl rfl (by decide)) rfl
    by_cases hz : mix c 7 % 3 = 2
    · rw [decide_eq_true hz] at t
      obtain ⟨x, ex, hx⟩ := ix_str (L := sgs) (r := mix c 7 / 3 % 93) (by decide) (Int.emod_nonneg _ (by decide)) (Int.emod_lt_of_pos _ (by decide))
      exact ⟨x, sgs_ok x hx, if_yesN t (set_ok (i := 9) (ρ := eK X h I G l i' g' (some (.int c)) (some (.int (mix c 7))) (some (st s)) a10) (bin_ok (x := .str sgs) (by rw [call_ok (ds := []) rfl]; exact signs_ok O) (mod_ok (j := 93) (fdiv_ok (j := 3) (i := mix c 7) rfl rfl (by decide) (by decide)) rfl (by decide)) ex))⟩
    · rw [decide_eq_false hz] at t
      exact ⟨s, hs, if_noN t⟩
  obtain ⟨j, hj, e6⟩ : ∃ j, j ∈ I ∧ K6 (eK X h I G l i' g' (some (.int c)) (some (.int (mix c 7))) (some (st s')) a10) O = .nx (eK X h I G l i' g' (some (.int c)) (some (.int (mix c 7))) (some (st s')) (some (dL (s', j, g')))) O := by
    have ll : mLst (maCons (mVar 5) (maCons (mC (.str [46])) maNil)) (eK X h I G l i' g' (some (.int c)) (some (.int (mix c 7))) (some (st s')) a10) O = .ok (.lst [st i', st 46]) O := rfl
    have eq := bin_ok (a := mVar 9) (b := mC (.str [32])) (g := gEq) (x := st s') (y := st 32) (ρ := eK X h I G l i' g' (some (.int c)) (some (.int (mix c 7))) (some (st s')) a10) (O := O) rfl rfl (one_eq s' 32)
    by_cases h32 : s' = 32
    · rw [decide_eq_true h32] at eq
      exact ⟨46, h46, set_ok (i := 10) (ρ := eK X h I G l i' g' (some (.int c)) (some (.int (mix c 7))) (some (st s')) a10) (tupA (maS (x := st s') rfl (maS (x := st 46) (bin_ok ll (callB_ok (ma1 eq) (z := .int 1) rfl) rfl) (ma1 (x := st g') rfl))) (show (3 : Nat) ≤ 1000000 by decide))⟩
    · rw [decide_eq_false h32] at eq
      exact ⟨i', hi', set_ok (i := 10) (ρ := eK X h I G l i' g' (some (.int c)) (some (.int (mix c 7))) (some (st s')) a10) (tupA (maS (x := st s') rfl (maS (x := st i') (bin_ok ll (callB_ok (ma1 eq) (z := .int 0) rfl) rfl) (ma1 (x := st g') rfl))) (show (3 : Nat) ≤ 1000000 by decide))⟩
  have y0 := Int.emod_nonneg (mix c 8) (show (M : Int) ≠ 0 by omega)
  have y1 := Int.emod_lt_of_pos (mix c 8) (show (0 : Int) < (M : Int) by omega)
  obtain ⟨m, hm⟩ : ∃ m : Nat, (m : Int) = 1 + mix c 8 % (M : Int) := ⟨(1 + mix c 8 % (M : Int)).toNat, by omega⟩
  refine ⟨i', g', (s', j, g'), m, some (.int (mix c 7)), some (st s'), some (dL (s', j, g')), hi', hg', hs', hj, hg', by omega, ?_⟩
  unfold B_lk
  rw [seqN e1, seqN e2, seqN e3, seqN e4, seqN e5, seqN e6]
  have mm : mBin gAdd (mC (.int 1)) (mBin gMod (mCall c_law_mix (maCons (mVar 7) (maCons (mC (.int 8)) maNil))) (mBin gIx (mLst (maCons (mC (.int 1)) (maCons (mC (.int 1)) (maCons (mC (.int 10)) (maCons (mC (.int 1)) maNil))))) (mBin gMod (mVar 1) (mC (.int 4))))) (eK X h I G l i' g' (some (.int c)) (some (.int (mix c 7))) (some (st s')) (some (dL (s', j, g')))) O = .ok (.int (m : Int)) O := by
    rw [hm]
    exact add_i (i := 1) rfl (mod_ok (mx_ok (c := c) (k := 8) rfl rfl (by decide) (by decide)) (bin_ok (x := .lst [.int 1, .int 1, .int 10, .int 1]) rfl (mod_ok (j := 4) (i := h) rfl rfl (by decide)) hM) (by omega))
  have ml : mBin gMul (mLst (maCons (mVar 10) maNil)) (mBin gAdd (mC (.int 1)) (mBin gMod (mCall c_law_mix (maCons (mVar 7) (maCons (mC (.int 8)) maNil))) (mBin gIx (mLst (maCons (mC (.int 1)) (maCons (mC (.int 1)) (maCons (mC (.int 10)) (maCons (mC (.int 1)) maNil))))) (mBin gMod (mVar 1) (mC (.int 4)))))) (eK X h I G l i' g' (some (.int c)) (some (.int (mix c 7))) (some (st s')) (some (dL (s', j, g')))) O = .ok (.lst (List.replicate m (dL (s', j, g')))) O := bin_ok (x := .lst [dL (s', j, g')]) rfl mm (gMul_row _ m (by omega))
  refine (set_ok (i := 4) (ρ := eK X h I G l i' g' (some (.int c)) (some (.int (mix c 7))) (some (st s')) (some (dL (s', j, g')))) (add_l (a := mVar 4) (l := l.map dL) rfl ml (by rw [List.length_map, List.length_replicate]; omega))).trans ?_
  rw [← List.map_replicate, ← List.map_append]
  rfl
theorem cut_nn {α : Type} (l : List α) (a b : Nat) : cutN l (some (a : Int)) (some (b : Int)) = (l.drop a).take (b - a) := by
  unfold cutN
  rw [HT.sIx_nat, HT.sIx_nat]
  by_cases h : a ≤ l.length
  · rw [Nat.min_eq_left h]
    by_cases hb : b ≤ l.length
    · rw [Nat.min_eq_left hb]
    · rw [Nat.min_eq_right (by omega), List.take_of_length_le (by rw [List.length_drop]; omega), List.take_of_length_le (by rw [List.length_drop]; omega)]
  · rw [Nat.min_eq_right (show l.length ≤ a by omega), List.drop_eq_nil_of_le (show l.length ≤ l.length by omega), List.drop_eq_nil_of_le (show l.length ≤ a by omega)]
    simp
@[simp] theorem c2_1 {a : Nat} : cutN [a] none (some 2) = [a] := rfl
theorem sl_ok {m a b : L2.M D} {ρ : DEnv} {O : Store} {l : List D} {x y : Nat} (hm : m ρ O = .ok (.lst l) O) (ha : a ρ O = .ok (.int (x : Int)) O) (hb : b ρ O = .ok (.int (y : Int)) O) : mSl m (moS a) (moS b) ρ O = .ok (.lst ((l.drop x).take (y - x))) O := by
  rw [m_sl, hm, bind_ok', mo_s, ha, bind_ok']
  show Res.bind (Res.ok (some (x : Int)) O) _ = _
  rw [bind_ok', mo_s, hb, bind_ok']
  show Res.bind (Res.ok (some (y : Int)) O) _ = _
  rw [bind_ok', deref_lst, gSl_lst, ofO_some, cut_nn]
structure Lk (l : List L3) (MI MG : List Nat) : Prop where
  ll : l.length ≤ 200
  lo : ∀ x ∈ l, Ok1 x.1
  i46 : 46 ∈ MI
  g46 : 46 ∈ MG
  il : MI.length ≤ 6
  gl : MG.length ≤ 6
  io : ∀ c ∈ MI, Ok1 c
  go : ∀ c ∈ MG, Ok1 c
  xi : ∀ x ∈ l, x.2.1 ∈ MI
  xg : ∀ x ∈ l, x.2.2 ∈ MG
theorem ok46 : Ok1 46 := by unfold Ok1; decide
theorem cons_ok {cols : List Nat} (h : ∀ x ∈ cols, Ok1 x) : ∀ x ∈ 46 :: cols, Ok1 x := fun x hx => by
  rcases List.mem_cons.mp hx with rfl | hx
  · exact ok46
  · exact h x hx
theorem e_look (xs : List Int) (O : Store) : ∃ l MI MG, Lk l MI MG ∧ c_law_look [.lst (xs.map D.int)] O = .ok (.lst (l.map dL)) O := by
  have ec := e_cell xs 0 O
  generalize xs.getD 0 0 = h at ec
  have y0 := Int.emod_nonneg h (show (4 : Int) ≠ 0 by decide)
  have y1 := Int.emod_lt_of_pos h (show (0 : Int) < 4 by decide)
  obtain ⟨a, b, t, M, ga, gb, gt, gM, hM0, hM1, htM, hab, ha, hb⟩ : ∃ a b t M : Nat, gIx (.lst [.int 3, .int 3, .int 1, .int 8]) (.int (h % 4)) = some (.int (a : Int)) ∧ gIx (.lst [.int 2, .int 1, .int 1, .int 8]) (.int (h % 4)) = some (.int (b : Int)) ∧ gIx (.lst [.int 20, .int 20, .int 20, .int 5]) (.int (h % 4)) = some (.int (t : Int)) ∧ gIx (.lst [.int 1, .int 1, .int 10, .int 1]) (.int (h % 4)) = some (.int (M : Int)) ∧ 0 < M ∧ M ≤ 10 ∧ t * M ≤ 200 ∧ ((a ≤ 3 ∧ b ≤ 3) ∨ t * M ≤ 5) ∧ a ≤ 100 ∧ b ≤ 100 := by
    have h4 : h % 4 = 0 ∨ h % 4 = 1 ∨ h % 4 = 2 ∨ h % 4 = 3 := by omega
    rcases h4 with h4 | h4 | h4 | h4 <;> rw [h4]
    · exact ⟨3, 2, 20, 1, rfl, rfl, rfl, rfl, by decide, by decide, by decide, by decide, by decide, by decide⟩
    · exact ⟨3, 1, 20, 1, rfl, rfl, rfl, rfl, by decide, by decide, by decide, by decide, by decide, by decide⟩
    · exact ⟨1, 1, 20, 10, rfl, rfl, rfl, rfl, by decide, by decide, by decide, by decide, by decide, by decide⟩
    · exact ⟨8, 8, 5, 1, rfl, rfl, rfl, rfl, by decide, by decide, by decide, by decide, by decide, by decide⟩
  obtain ⟨c1, l1, o1, e1⟩ := e_colours (mix h 1) a ha O
  obtain ⟨c2, l2, o2, e2⟩ := e_colours (mix h 2) b hb O
  obtain ⟨X, hX⟩ : ∃ X, X = D.lst (xs.map D.int) := ⟨_, rfl⟩
  rw [← hX] at ec ⊢
  have s1 : msSet 1 (mCall c_law_cell_at (maCons (mVar 0) (maCons (mC (.int 0)) maNil))) [some X, none, none, none, none, none, none, none, none, none, none] O = .nx [some X, some (.int h), none, none, none, none, none, none, none, none, none] O := set_ok (i := 1) (ρ := [some X, none, none, none, none, none, none, none, none, none, none]) (by rw [call_ok (ds := [X, .int 0]) rfl]; exact ec)
  have s2 : msSet 2 (mCall c_law_colours (maCons (mCall c_law_mix (maCons (mVar 1) (maCons (mC (.int 1)) maNil))) (maCons (mBin gIx (mLst (maCons (mC (.int 3)) (maCons (mC (.int 3)) (maCons (mC (.int 1)) (maCons (mC (.int 8)) maNil))))) (mBin gMod (mVar 1) (mC (.int 4)))) maNil))) [some X, some (.int h), none, none, none, none, none, none, none, none, none] O = .nx [some X, some (.int h), some (.lst ((46 :: c1).map st)), none, none, none, none, none, none, none, none] O := set_ok (i := 2) (ρ := [some X, some (.int h), none, none, none, none, none, none, none, none, none]) (by
    rw [call_ok (maS (mx_ok (c := h) (k := 1) rfl rfl (by decide) (by decide)) (ma1 (bin_ok (x := .lst [.int 3, .int 3, .int 1, .int 8]) rfl (mod_ok (i := h) (j := 4) rfl rfl (by decide)) ga)))]
    exact e1)
  have s3 : msSet 3 (mCall c_law_colours (maCons (mCall c_law_mix (maCons (mVar 1) (maCons (mC (.int 2)) maNil))) (maCons (mBin gIx (mLst (maCons (mC (.int 2)) (maCons (mC (.int 1)) (maCons (mC (.int 1)) (maCons (mC (.int 8)) maNil))))) (mBin gMod (mVar 1) (mC (.int 4)))) maNil))) [some X, some (.int h), some (.lst ((46 :: c1).map st)), none, none, none, none, none, none, none, none] O = .nx [some X, some (.int h), some (.lst ((46 :: c1).map st)), some (.lst ((46 :: c2).map st)), none, none, none, none, none, none, none] O := set_ok (i := 3) (ρ := [some X, some (.int h), some (.lst ((46 :: c1).map st)), none, none, none, none, none, none, none, none]) (by
    rw [call_ok (maS (mx_ok (c := h) (k := 2) rfl rfl (by decide) (by decide)) (ma1 (bin_ok (x := .lst [.int 2, .int 1, .int 1, .int 8]) rfl (mod_ok (i := h) (j := 4) rfl rfl (by decide)) gb)))]
    exact e2)
  have it : mIter (mSl (mVar 0) (moS (mC (.int 2))) (moS (mBin gAdd (mC (.int 2)) (mBin gIx (mLst (maCons (mC (.int 20)) (maCons (mC (.int 20)) (maCons (mC (.int 20)) (maCons (mC (.int 5)) maNil))))) (mBin gMod (mVar 1) (mC (.int 4))))))) (eK X h (46 :: c1) (46 :: c2) [] 46 46 none none none none) O = .ok (((xs.drop 2).take t).map D.int) O := by
    refine it_ok ?_
    have := sl_ok (m := mVar 0) (a := mC (.int 2)) (x := 2) (y := 2 + t) (ρ := eK X h (46 :: c1) (46 :: c2) [] 46 46 none none none none) (O := O) (l := xs.map D.int) (by rw [hX]; rfl) rfl (add_i (a := mC (.int 2)) (i := 2) rfl (bin_ok (g := gIx) (a := mLst (maCons (mC (.int 20)) (maCons (mC (.int 20)) (maCons (mC (.int 20)) (maCons (mC (.int 5)) maNil))))) (x := .lst [.int 20, .int 20, .int 20, .int 5]) rfl (mod_ok (i := h) (j := 4) (a := mVar 1) (b := mC (.int 4)) rfl rfl (by decide)) gt))
    rw [show 2 + t - 2 = t by omega, ← List.map_drop, ← List.map_take] at this
    exact this
  generalize hcl : (xs.drop 2).take t = cl at it
  have hcll : cl.length ≤ t := by rw [← hcl, List.length_take]; exact Nat.min_le_left _ _
  obtain ⟨ρ', O', ef, hO, l, i, g, a7, a8, a9, a10, hll, hlo, hi, hg, hxi, hxg, hρ⟩ := floop_ind (g := mgN 7) (b := B_lk)
    (fun k ρ O' => O' = O ∧ ∃ (l : List L3) (i g : Nat) (a7 a8 a9 a10 : Option D), (k ≤ t → l.length ≤ k * M) ∧ (∀ x ∈ l, Ok1 x.1) ∧ i ∈ 46 :: c1 ∧ g ∈ 46 :: c2 ∧ (∀ x ∈ l, x.2.1 ∈ 46 :: c1) ∧ (∀ x ∈ l, x.2.2 ∈ 46 :: c2) ∧ ρ = eK X h (46 :: c1) (46 :: c2) l i g a7 a8 a9 a10) (cl.map D.int) 0 (eK X h (46 :: c1) (46 :: c2) [] 46 46 none none none none) O
    ⟨rfl, [], 46, 46, none, none, none, none, fun _ => Nat.zero_le _, fun x hx => (nomatch hx), List.mem_cons_self, List.mem_cons_self, fun x hx => (nomatch hx), fun x hx => (nomatch hx), rfl⟩ (by
    rintro k d ρ O' hk ⟨rfl, l, i, g, a7, a8, a9, a10, hll, hlo, hi, hg, hxi, hxg, rfl⟩
    rw [Nat.zero_add] at hll ⊢
    obtain ⟨c, _, rfl⟩ := List.mem_map.mp (List.mem_of_getElem? hk)
    have hkt : k < t := by have := (List.getElem?_eq_some_iff.mp hk).1; rw [List.length_map] at this; omega
    have h1 := hll (by omega)
    have h2 : k * M ≤ t * M := Nat.mul_le_mul (by omega) (Nat.le_refl _)
    obtain ⟨i', g', x, m, a8', a9', a10', hi', hg', hx1, hx2, hx3, hm, eb⟩ := lk_body (X := X) (h := h) (I := 46 :: c1) (G := 46 :: c2) (M := M) (by simp) (by simp) gM hM0 hM1 l (by omega) i g hi hg List.mem_cons_self c a8 a9 a10 O'
    have hin : ∀ y ∈ l ++ List.replicate m x, y ∈ l ∨ y = x := fun y hy => by
      rcases List.mem_append.mp hy with hy | hy
      · exact .inl hy
      · exact .inr (List.eq_of_mem_replicate hy)
    refine ⟨_, rfl, _, _, .inl eb, rfl, _, i', g', _, _, _, _, fun _ => ?_, fun y hy => ?_, hi', hg', fun y hy => ?_, fun y hy => ?_, rfl⟩
    · rw [List.length_append, List.length_replicate, Nat.succ_mul]
      omega
    · rcases hin y hy with q | q
      · exact hlo y q
      · rw [q]; exact hx1
    · rcases hin y hy with q | q
      · exact hxi y q
      · rw [q]; exact hx2
    · rcases hin y hy with q | q
      · exact hxg y q
      · rw [q]; exact hx3)
  rw [Nat.zero_add, List.length_map] at hll
  have hl1 := hll hcll
  have hl2 : cl.length * M ≤ t * M := Nat.mul_le_mul hcll (Nat.le_refl _)
  rw [hO, hρ] at ef
  have fin : c_law_look [X] O = .ok (.lst (l.map dL)) O := by
    show funF (b_law_look [some X, none, none, none, none, none, none, none, none, none, none] O) = _
    unfold b_law_look
    rw [seqN s1, seqN s2, seqN s3]
    refine (congrArg funF (seqN (set_ok (i := 4) (d := .lst []) rfl))).trans ?_
    refine (congrArg funF (seqN (set_ok (i := 5) (d := st 46) rfl))).trans ?_
    refine (congrArg funF (seqN (set_ok (i := 6) (d := st 46) rfl))).trans ?_
    refine (congrArg funF (seqN (show msFor _ (mgN 7) B_lk (eK X h (46 :: c1) (46 :: c2) [] 46 46 none none none none) O = _ from by rw [ms_for, it, forF_ok]; exact ef))).trans ?_
    rfl
  rcases hab with ⟨q1, q2⟩ | q
  · exact ⟨l, 46 :: c1, 46 :: c2, ⟨by omega, hlo, List.mem_cons_self, List.mem_cons_self, by rw [List.length_cons]; omega, by rw [List.length_cons]; omega, cons_ok o1, cons_ok o2, hxi, hxg⟩, fin⟩
  · refine ⟨l, 46 :: l.map (·.2.1), 46 :: l.map (·.2.2), ⟨by omega, hlo, List.mem_cons_self, List.mem_cons_self, by rw [List.length_cons, List.length_map]; omega, by rw [List.length_cons, List.length_map]; omega, cons_ok fun c hc => ?_, cons_ok fun c hc => ?_, fun x hx => List.mem_cons_of_mem _ (List.mem_map.mpr ⟨x, hx, rfl⟩), fun x hx => List.mem_cons_of_mem _ (List.mem_map.mpr ⟨x, hx, rfl⟩)⟩, fin⟩
    · obtain ⟨x, hx, rfl⟩ := List.mem_map.mp hc
      exact cons_ok o1 _ (hxi x hx)
    · obtain ⟨x, hx, rfl⟩ := List.mem_map.mp hc
      exact cons_ok o2 _ (hxg x hx)
theorem set_of {l : List L3} {MI MG : List Nat} (h : Lk l MI MG) : Set l (cset (46 :: l.map (·.2.1))) (cset (46 :: l.map (·.2.2))) := by
  have hi : ∀ c ∈ 46 :: l.map (·.2.1), c ∈ MI := fun c hc => by
    rcases List.mem_cons.mp hc with rfl | hc
    · exact h.i46
    · obtain ⟨x, hx, rfl⟩ := List.mem_map.mp hc
      exact h.xi x hx
  have hg : ∀ c ∈ 46 :: l.map (·.2.2), c ∈ MG := fun c hc => by
    rcases List.mem_cons.mp hc with rfl | hc
    · exact h.g46
    · obtain ⟨x, hx, rfl⟩ := List.mem_map.mp hc
      exact h.xg x hx
  refine ⟨Nat.le_trans h.ll (by decide), Nat.le_trans (cset_len hi) (Nat.le_trans h.il (by decide)), Nat.le_trans (cset_len hg) (Nat.le_trans h.gl (by decide)), fun c hc => h.io c (hi c ((cset_mem _ c).mp hc)), fun c hc => h.go c (hg c ((cset_mem _ c).mp hc)), h.lo, fun e => ?_, fun e => ?_⟩
  · have := (cset_mem (46 :: l.map (·.2.1)) 46).mpr List.mem_cons_self
    rw [e] at this
    cases this
  · have := (cset_mem (46 :: l.map (·.2.2)) 46).mpr List.mem_cons_self
    rw [e] at this
    cases this
theorem col_sets {l : List L3} {MI MG : List Nat} (h : Lk l MI MG) : (∀ O, c_colours_of [.lst (l.map dL), .int 1] O = .ok (.lst ((cset (46 :: l.map (·.2.1))).map st)) O) ∧ ∀ O, c_colours_of [.lst (l.map dL), .int 2] O = .ok (.lst ((cset (46 :: l.map (·.2.2))).map st)) O := by
  have hl := h.ll
  have hi := h.il
  have hg := h.gl
  exact ⟨fun O => col_ok l 1 (·.2.1) (fun _ => .inl ⟨rfl, rfl⟩) (M := MI) (by omega) (by omega) h.i46 h.xi O, fun O => col_ok l 2 (·.2.2) (fun _ => .inr ⟨rfl, rfl⟩) (M := MG) (by omega) (by omega) h.g46 h.xg O⟩
def eW (X L I G P : D) (a5 a6 a7 : Option D) : DEnv := [some X, some L, some I, some G, some P, a5, a6, a7]
theorem lw_set {l : List L3} {M : List Nat} (f : L3 → Nat) (i : Nat) (hf : ∀ x (ρ : DEnv) O, ∃ z, z = O ∧ mVar i [some (st x.1), some (st x.2.1), some (st x.2.2)] O = .ok (st (f x)) O) (hl : l.length ≤ 1000) (hM : M.length < 64) (h46 : 46 ∈ M) (h : ∀ x ∈ l, f x ∈ M) (X : D) (a b c d e g : Option D) (O : Store) :
    mCallB gRiseL (maCons (mBin gAdd (mComp (mIter (mVar 1)) 3 [] (mgN' 3 (mgsCons (mgN 0) (mgsCons (mgN 1) (mgsCons (mgN 2) mgsNil)))) mYes (mVar i)) (mLst (maCons (mC (.str [46])) maNil))) maNil) [some X, some (.lst (l.map dL)), a, b, c, d, e, g] O = .ok (.lst ((cset (46 :: l.map f)).map st)) O := by
  have cl := cloop_mapT (g := mgN' 3 (mgsCons (mgN 0) (mgsCons (mgN 1) (mgsCons (mgN 2) mgsNil)))) (t := mYes) (m := mVar i) (fun ρ => ∃ a b c, ρ = [a, b, c]) dL (fun x => st (f x)) l [none, none, none] O [] ⟨_, _, _, rfl⟩ (by
    rintro x hx ρ ⟨a, b, c, rfl⟩
    obtain ⟨_, _, e⟩ := hf x [] O
    exact ⟨[some (st x.1), some (st x.2.1), some (st x.2.2)], rfl, ⟨_, _, _, rfl⟩, rfl, e⟩)
  rw [List.nil_append] at cl
  have cm := comp_ok (m := mIter (mVar 1)) (own := 3) (cap := []) (ρ := [some X, some (.lst (l.map dL)), a, b, c, d, e, g]) (it_ok (l := l.map dL) rfl) (by rw [List.length_map]; omega) rfl cl
  refine callB_ok (ma1 (add_l cm (b := mLst (maCons (mC (.str [46])) maNil)) (m := [st 46]) rfl (by rw [List.length_map]; show _ + 1 ≤ _; omega))) ?_
  show gRiseL [.lst ((l.map fun x => st (f x)) ++ [st 46])] = _
  have hr := rise_ok (ks := l.map f ++ [46]) (M := M) (by simp) (by rw [List.length_append, List.length_map, List.length_singleton]; omega) (fun c hc => by
    rcases List.mem_append.mp hc with hc | hc
    · obtain ⟨x, hx, rfl⟩ := List.mem_map.mp hc
      exact h x hx
    · rw [List.mem_singleton.mp hc]; exact h46) hM
  rw [List.map_append, List.map_map] at hr
  rw [cset_congr (ks := 46 :: l.map f) (ls := l.map f ++ [46]) fun c => by simp [or_comm]]
  exact hr
def ly : List L3 := [(121, 97, 98)]
theorem ly_i : cset (46 :: ly.map (·.2.1)) = [46, 97] := by decide +kernel
theorem ly_g : cset (46 :: ly.map (·.2.2)) = [46, 98] := by decide +kernel
theorem ly_ok : Lk ly [46, 97] [46, 98] := by
  refine ⟨by decide, ?_, by decide, by decide, by decide, by decide, ?_, ?_, ?_, ?_⟩
  · unfold Ok1; decide
  · unfold Ok1; decide
  · unfold Ok1; decide
  · decide
  · decide
theorem law_true (xs : List Int) (hx : xs.length ≤ 63) : ∃ O', c_law [.lst (xs.map D.int)] [] = .ok (.bl true) O' := by
  obtain ⟨l, MI, MG, K0, el⟩ := e_look xs []
  have S1 := set_of K0
  have S2 := set_of ly_ok
  have hl := K0.ll
  have hil := K0.il
  have hgl := K0.gl
  obtain ⟨q1, q2⟩ := col_sets K0
  obtain ⟨y1, y2⟩ := col_sets ly_ok
  have r2 := fun X a b c d e g => lw_set (·.2.1) 1 (fun x _ O => ⟨O, rfl, rfl⟩) (M := MI) (by omega) (by omega) K0.i46 K0.xi X a b c d e g ([] : Store)
  have r3 := fun X a b c d e g => lw_set (·.2.2) 2 (fun x _ O => ⟨O, rfl, rfl⟩) (M := MG) (by omega) (by omega) K0.g46 K0.xg X a b c d e g ([] : Store)
  rw [ly_i, ly_g] at S2
  rw [ly_i] at y1
  rw [ly_g] at y2
  generalize hcs : cset (46 :: l.map (·.2.1)) = cs at S1 q1 r2
  generalize hgs : cset (46 :: l.map (·.2.2)) = gs at S1 q2 r3
  obtain ⟨X, hX⟩ : ∃ X, X = D.lst (xs.map D.int) := ⟨_, rfl⟩
  rw [← hX] at el ⊢
  generalize hps : ((xs.drop 42).take 20).map (fun c => mix c 10) = ps
  have hpl : ps.length ≤ 1000 := by
    rw [← hps, List.length_map, List.length_take]
    exact Nat.le_trans (Nat.min_le_left _ _) (by decide)
  have s1 : msSet 1 (mCall c_law_look (maCons (mVar 0) maNil)) [some X, none, none, none, none, none, none, none] [] = .nx [some X, some (.lst (l.map dL)), none, none, none, none, none, none] [] := set_ok (i := 1) (ρ := [some X, none, none, none, none, none, none, none]) (by rw [call_ok (ds := [X]) rfl]; exact el)
  have s2 := set_ok (i := 2) (r2 X none none none none none none)
  have s3 := set_ok (i := 3) (r3 X (some (.lst (cs.map st))) none none none none none)
  have s4 : msSet 4 (mComp (mIter (mSl (mVar 0) (moS (mC (.int 42))) (moS (mC (.int 62))))) 1 [] (mgN 0) mYes (mCall c_law_mix (maCons (mVar 0) (maCons (mC (.int 10)) maNil)))) [some X, some (.lst (l.map dL)), some (.lst (cs.map st)), some (.lst (gs.map st)), none, none, none, none] [] = .nx (eW X (.lst (l.map dL)) (.lst (cs.map st)) (.lst (gs.map st)) (.lst (ps.map D.int)) none none none) [] := by
    have sl := sl_ok (m := mVar 0) (a := mC (.int 42)) (b := mC (.int 62)) (x := 42) (y := 62) (ρ := [some X, some (.lst (l.map dL)), some (.lst (cs.map st)), some (.lst (gs.map st)), none, none, none, none]) (O := []) (l := xs.map D.int) (by rw [hX]; rfl) rfl rfl
    rw [show 62 - 42 = 20 from rfl, ← List.map_drop, ← List.map_take] at sl
    have cl := cloop_mapT (g := mgN 0) (t := mYes) (m := mCall c_law_mix (maCons (mVar 0) (maCons (mC (.int 10)) maNil))) (fun ρ => ∃ a, ρ = [a]) D.int (fun c => D.int (mix c 10)) ((xs.drop 42).take 20) [none] [] [] ⟨_, rfl⟩ (by
      rintro c hc ρ ⟨a, rfl⟩
      exact ⟨[some (.int c)], rfl, ⟨_, rfl⟩, rfl, mx_ok (c := c) (k := 10) rfl rfl (by decide) (by decide)⟩)
    rw [List.nil_append] at cl
    refine (set_ok (i := 4) (comp_ok (own := 1) (cap := []) (it_ok sl) (by rw [List.length_map, List.length_take]; exact Nat.le_trans (Nat.min_le_left _ _) (by decide)) rfl cl)).trans ?_
    rw [← hps, List.map_map]
    rfl
  generalize hP : D.lst (ps.map D.int) = P at s4
  have s5 : msSet 5 (mCallB gList (maCons (mVar 1) maNil)) (eW X (.lst (l.map dL)) (.lst (cs.map st)) (.lst (gs.map st)) P none none none) [] = .nx (eW X (.lst (l.map dL)) (.lst (cs.map st)) (.lst (gs.map st)) P (some (.lst (l.map dL))) none none) [] := set_ok (i := 5) (ρ := eW X (.lst (l.map dL)) (.lst (cs.map st)) (.lst (gs.map st)) P none none none) (list_ok (d := .lst (l.map dL)) (l := l.map dL) rfl rfl)
  have hcl := S1.cl
  have hgl' := S1.gl
  have i1 := e_init [] l cs gs (by omega) (by omega) q1 q2
  have s6 : msSet 6 (mMake "Shade" c_Shade___init__ (maCons (mVar 5) maNil)) (eW X (.lst (l.map dL)) (.lst (cs.map st)) (.lst (gs.map st)) P (some (.lst (l.map dL))) none none) [] = .nx (eW X (.lst (l.map dL)) (.lst (cs.map st)) (.lst (gs.map st)) P (some (.lst (l.map dL))) (some (.ob 0)) none) [.ins "Shade" (fsS l cs gs 1), .ml ((prs cs gs).map pr)] := by
    refine (set_ok' (i := 6) (ρ := eW X (.lst (l.map dL)) (.lst (cs.map st)) (.lst (gs.map st)) P (some (.lst (l.map dL))) none none) (d := .ob 0) (O1 := [.ins "Shade" (fsS l cs gs 1), .ml ((prs cs gs).map pr)]) ?_).trans rfl
    rw [m_make, ma1 (x := .lst (l.map dL)) rfl, bind_ok']
    exact (congrArg (mkF 0) i1).trans rfl
  have s7 := app_ok (i := 5) (m := mTup (maCons (mC (.str [122])) (maCons (mC (.str [104])) (maCons (mC (.str [104])) maNil)))) (ρ := eW X (.lst (l.map dL)) (.lst (cs.map st)) (.lst (gs.map st)) P (some (.lst (l.map dL))) (some (.ob 0)) none) (O := [.ins "Shade" (fsS l cs gs 1), .ml ((prs cs gs).map pr)]) (d := dL (122, 104, 104)) (ds := l.map dL) rfl rfl (by rw [List.length_map]; omega)
  have i2 := e_init [.ins "Shade" (fsS l cs gs 1), .ml ((prs cs gs).map pr)] ly [46, 97] [46, 98] (by decide) (by decide) y1 y2
  generalize hH : D.lst (l.map dL ++ [dL (122, 104, 104)]) = Hd at s7
  obtain ⟨O4, hO4⟩ : ∃ O4 : Store, O4 = [.ins "Shade" (fsS l cs gs 1), .ml ((prs cs gs).map pr), .ins "Shade" (fsS ly [46, 97] [46, 98] 3), .ml ((prs [46, 97] [46, 98]).map pr)] := ⟨_, rfl⟩
  have s8 : msSet 7 (mMake "Shade" c_Shade___init__ (maCons (mLst (maCons (mTup (maCons (mC (.str [121])) (maCons (mC (.str [97])) (maCons (mC (.str [98])) maNil)))) maNil)) maNil)) (eW X (.lst (l.map dL)) (.lst (cs.map st)) (.lst (gs.map st)) P (some Hd) (some (.ob 0)) none) [.ins "Shade" (fsS l cs gs 1), .ml ((prs cs gs).map pr)] = .nx (eW X (.lst (l.map dL)) (.lst (cs.map st)) (.lst (gs.map st)) P (some Hd) (some (.ob 0)) (some (.ob 2))) O4 := by
    refine (set_ok' (i := 7) (ρ := eW X (.lst (l.map dL)) (.lst (cs.map st)) (.lst (gs.map st)) P (some Hd) (some (.ob 0)) none) (d := .ob 2) (O1 := O4) ?_).trans rfl
    rw [m_make, ma1 (x := .lst (ly.map dL)) rfl, bind_ok', hO4]
    exact (congrArg (mkF 2) i2).trans rfl
  have T1 : Tr O4 0 l cs gs := ⟨1, by rw [hO4]; rfl, by rw [hO4]; rfl⟩
  have T2 : Tr O4 2 ly [46, 97] [46, 98] := ⟨3, by rw [hO4]; rfl, by rw [hO4]; rfl⟩
  have R1 := e_right T1 S1 ps hpl
  have R2 := e_right T2 S2 ps hpl
  rw [hP] at R1 R2
  have c1 : mCall c_law_right (maCons (mVar 6) (maCons (mVar 1) (maCons (mVar 2) (maCons (mVar 3) (maCons (mVar 4) maNil))))) (eW X (.lst (l.map dL)) (.lst (cs.map st)) (.lst (gs.map st)) P (some Hd) (some (.ob 0)) (some (.ob 2))) O4 = .ok (.bl true) O4 := by
    rw [call_ok (ds := [.ob 0, .lst (l.map dL), .lst (cs.map st), .lst (gs.map st), P]) rfl]
    exact R1
  have c2 : mCall c_law_right (maCons (mVar 7) (maCons (mLst (maCons (mTup (maCons (mC (.str [121])) (maCons (mC (.str [97])) (maCons (mC (.str [98])) maNil)))) maNil)) (maCons (mLst (maCons (mC (.str [46])) (maCons (mC (.str [97])) maNil))) (maCons (mLst (maCons (mC (.str [46])) (maCons (mC (.str [98])) maNil))) (maCons (mVar 4) maNil))))) (eW X (.lst (l.map dL)) (.lst (cs.map st)) (.lst (gs.map st)) P (some Hd) (some (.ob 0)) (some (.ob 2))) O4 = .ok (.bl true) O4 := by
    rw [call_ok (ds := [.ob 2, .lst (ly.map dL), .lst ([46, 97].map st), .lst ([46, 98].map st), P]) rfl]
    exact R2
  refine ⟨O4, ?_⟩
  show funF (b_law [some X, none, none, none, none, none, none, none] []) = _
  unfold b_law
  rw [seqN s1]
  refine (congrArg funF (seqN s2)).trans ?_
  refine (congrArg funF (seqN s3)).trans ?_
  refine (congrArg funF (seqN s4)).trans ?_
  rw [seqN s5, seqN s6]
  refine (congrArg funF (seqN s7)).trans ?_
  refine (congrArg funF (seqN s8)).trans ?_
  rw [seqN (not_no c1)]
  refine (congrArg funF (seqN (not_no c2))).trans ?_
  rw [ret_okB c1]
  rfl
theorem all_mk {l : PySem.W.OpenLaw} {w : World} {K : PySem.W.Frag} {h : Heap} {mg : Str → Option Value} {fa : Addr} (X : K.In h) (G : h.Ns mainGlobals mg) (hfa : mg "law" = some (.ref fa))
    {A_Shade : Addr}
    {A_Trail : Addr}
    {f_written : Addr} {od_written an_written : Option Addr} {sl_written : Array (Option Value)} {oc_written kV_written dc_written pm_written cd_written ct_written : Value}
    {f_pair_behind : Addr} {od_pair_behind an_pair_behind : Option Addr} {sl_pair_behind : Array (Option Value)} {oc_pair_behind kV_pair_behind dc_pair_behind pm_pair_behind cd_pair_behind ct_pair_behind : Value}
    {f_colours_of : Addr} {od_colours_of an_colours_of : Option Addr} {sl_colours_of : Array (Option Value)} {oc_colours_of kV_colours_of dc_colours_of pm_colours_of cd_colours_of ct_colours_of : Value}
    {f_shows : Addr} {od_shows an_shows : Option Addr} {sl_shows : Array (Option Value)} {oc_shows kV_shows dc_shows pm_shows cd_shows ct_shows : Value}
    {f_marks_of : Addr} {od_marks_of an_marks_of : Option Addr} {sl_marks_of : Array (Option Value)} {oc_marks_of kV_marks_of dc_marks_of pm_marks_of cd_marks_of ct_marks_of : Value}
    {f_Shade___init__ : Addr} {od_Shade___init__ an_Shade___init__ : Option Addr} {sl_Shade___init__ : Array (Option Value)} {oc_Shade___init__ kV_Shade___init__ dc_Shade___init__ pm_Shade___init__ cd_Shade___init__ ct_Shade___init__ : Value}
    {f_Shade_first_node : Addr} {od_Shade_first_node an_Shade_first_node : Option Addr} {sl_Shade_first_node : Array (Option Value)} {oc_Shade_first_node kV_Shade_first_node dc_Shade_first_node pm_Shade_first_node cd_Shade_first_node ct_Shade_first_node : Value}
    {f_Shade_last_at : Addr} {od_Shade_last_at an_Shade_last_at : Option Addr} {sl_Shade_last_at : Array (Option Value)} {oc_Shade_last_at kV_Shade_last_at dc_Shade_last_at pm_Shade_last_at cd_Shade_last_at ct_Shade_last_at : Value}
    {f_Shade_nodes_at : Addr} {od_Shade_nodes_at an_Shade_nodes_at : Option Addr} {sl_Shade_nodes_at : Array (Option Value)} {oc_Shade_nodes_at kV_Shade_nodes_at dc_Shade_nodes_at pm_Shade_nodes_at cd_Shade_nodes_at ct_Shade_nodes_at : Value}
    {f_Shade_moves_from : Addr} {od_Shade_moves_from an_Shade_moves_from : Option Addr} {sl_Shade_moves_from : Array (Option Value)} {oc_Shade_moves_from kV_Shade_moves_from dc_Shade_moves_from pm_Shade_moves_from cd_Shade_moves_from ct_Shade_moves_from : Value}
    {f_Shade_is_end : Addr} {od_Shade_is_end an_Shade_is_end : Option Addr} {sl_Shade_is_end : Array (Option Value)} {oc_Shade_is_end kV_Shade_is_end dc_Shade_is_end pm_Shade_is_end cd_Shade_is_end ct_Shade_is_end : Value}
    {f_law_cell_at : Addr} {od_law_cell_at an_law_cell_at : Option Addr} {sl_law_cell_at : Array (Option Value)} {oc_law_cell_at kV_law_cell_at dc_law_cell_at pm_law_cell_at cd_law_cell_at ct_law_cell_at : Value}
    {f_law_mix : Addr} {od_law_mix an_law_mix : Option Addr} {sl_law_mix : Array (Option Value)} {oc_law_mix kV_law_mix dc_law_mix pm_law_mix cd_law_mix ct_law_mix : Value}
    {f_law_whole : Addr} {od_law_whole an_law_whole : Option Addr} {sl_law_whole : Array (Option Value)} {oc_law_whole kV_law_whole dc_law_whole pm_law_whole cd_law_whole ct_law_whole : Value}
    {f_law_colours : Addr} {od_law_colours an_law_colours : Option Addr} {sl_law_colours : Array (Option Value)} {oc_law_colours kV_law_colours dc_law_colours pm_law_colours cd_law_colours ct_law_colours : Value}
    {f_law_signs : Addr} {od_law_signs an_law_signs : Option Addr} {sl_law_signs : Array (Option Value)} {oc_law_signs kV_law_signs dc_law_signs pm_law_signs cd_law_signs ct_law_signs : Value}
    {f_law_look : Addr} {od_law_look an_law_look : Option Addr} {sl_law_look : Array (Option Value)} {oc_law_look kV_law_look dc_law_look pm_law_look cd_law_look ct_law_look : Value}
    {f_law_truth : Addr} {od_law_truth an_law_truth : Option Addr} {sl_law_truth : Array (Option Value)} {oc_law_truth kV_law_truth dc_law_truth pm_law_truth cd_law_truth ct_law_truth : Value}
    {f_law_due : Addr} {od_law_due an_law_due : Option Addr} {sl_law_due : Array (Option Value)} {oc_law_due kV_law_due dc_law_due pm_law_due cd_law_due ct_law_due : Value}
    {f_law_right : Addr} {od_law_right an_law_right : Option Addr} {sl_law_right : Array (Option Value)} {oc_law_right kV_law_right dc_law_right pm_law_right cd_law_right ct_law_right : Value}
    {f_law : Addr} {od_law an_law : Option Addr} {sl_law : Array (Option Value)} {oc_law kV_law dc_law pm_law cd_law ct_law : Value}
    {u_ANEW_SIGN : Value}
    {ad_PLAIN : Addr} {oc_PLAIN : Value} {od_PLAIN : Option Addr} {it_PLAIN : Array Value} {nn_PLAIN : Nat} {sl_PLAIN : Array (Option Value)}
    {u_ROW_END : Value}
    (aC_Shade : PySem.W.nsIn K mainGlobals "Shade" = some (some (.ref A_Shade)))
    (pg_Shade : PySem.W.plainGet K A_Shade Str.empty = true)
    (hd_Shade : PySem.W.hasDictIn K A_Shade = true)
    (po_Shade : PySem.W.plainOver K A_Shade = true)
    (sa_Shade : PySem.W.findIn K (.ref A_Shade) "__setattr__" = some (some (.builtin "object.__setattr__")))
    (mk_Shade : PySem.W.makesIn K A_Shade = true)
    (kc_Shade : PySem.W.keepIn K (.ref A_Shade) = true)
    (n_look_Shade : PySem.W.findIn K (.ref A_Shade) "look" = some none)
    (n_marks_Shade : PySem.W.findIn K (.ref A_Shade) "marks" = some none)
    (n_pairs_Shade : PySem.W.findIn K (.ref A_Shade) "pairs" = some none)
    (aC_Trail : PySem.W.nsIn K mainGlobals "Trail" = some (some (.ref A_Trail)))
    (ii_Shade_Trail : PySem.W.isIn K (.ref A_Shade) A_Trail = true)
    (a_written : PySem.W.nsIn K mainGlobals "written" = some (some (.ref f_written)))
    (l_written : K.lookup f_written = some ⟨oc_written, od_written, .func (PySem.W.fnOf "written" "written" (defArgs s_written) (defBody s_written) (defScope s_written) .none kV_written dc_written pm_written an_written cd_written ct_written), sl_written⟩) (cc_written : PySem.W.codeIn K cd_written "written" = true) (k_written : PySem.W.keepIn K (.ref f_written) = true)
    (a_pair_behind : PySem.W.nsIn K mainGlobals "pair_behind" = some (some (.ref f_pair_behind)))
    (l_pair_behind : K.lookup f_pair_behind = some ⟨oc_pair_behind, od_pair_behind, .func (PySem.W.fnOf "pair_behind" "pair_behind" (defArgs s_pair_behind) (defBody s_pair_behind) (defScope s_pair_behind) .none kV_pair_behind dc_pair_behind pm_pair_behind an_pair_behind cd_pair_behind ct_pair_behind), sl_pair_behind⟩) (cc_pair_behind : PySem.W.codeIn K cd_pair_behind "pair_behind" = true) (k_pair_behind : PySem.W.keepIn K (.ref f_pair_behind) = true)
    (a_colours_of : PySem.W.nsIn K mainGlobals "colours_of" = some (some (.ref f_colours_of)))
    (l_colours_of : K.lookup f_colours_of = some ⟨oc_colours_of, od_colours_of, .func (PySem.W.fnOf "colours_of" "colours_of" (defArgs s_colours_of) (defBody s_colours_of) (defScope s_colours_of) .none kV_colours_of dc_colours_of pm_colours_of an_colours_of cd_colours_of ct_colours_of), sl_colours_of⟩) (cc_colours_of : PySem.W.codeIn K cd_colours_of "colours_of" = true) (k_colours_of : PySem.W.keepIn K (.ref f_colours_of) = true)
    (a_shows : PySem.W.nsIn K mainGlobals "shows" = some (some (.ref f_shows)))
    (l_shows : K.lookup f_shows = some ⟨oc_shows, od_shows, .func (PySem.W.fnOf "shows" "shows" (defArgs s_shows) (defBody s_shows) (defScope s_shows) .none kV_shows dc_shows pm_shows an_shows cd_shows ct_shows), sl_shows⟩) (cc_shows : PySem.W.codeIn K cd_shows "shows" = true) (k_shows : PySem.W.keepIn K (.ref f_shows) = true)
    (a_marks_of : PySem.W.nsIn K mainGlobals "marks_of" = some (some (.ref f_marks_of)))
    (l_marks_of : K.lookup f_marks_of = some ⟨oc_marks_of, od_marks_of, .func (PySem.W.fnOf "marks_of" "marks_of" (defArgs s_marks_of) (defBody s_marks_of) (defScope s_marks_of) .none kV_marks_of dc_marks_of pm_marks_of an_marks_of cd_marks_of ct_marks_of), sl_marks_of⟩) (cc_marks_of : PySem.W.codeIn K cd_marks_of "marks_of" = true) (k_marks_of : PySem.W.keepIn K (.ref f_marks_of) = true)
    (a_Shade___init__ : PySem.W.findIn K (.ref A_Shade) "__init__" = some (some (.ref f_Shade___init__))) (i_Shade___init__ : PySem.W.isFn K (.ref f_Shade___init__) = true)
    (l_Shade___init__ : K.lookup f_Shade___init__ = some ⟨oc_Shade___init__, od_Shade___init__, .func (PySem.W.fnOf "__init__" "Shade.__init__" (defArgs s_Shade___init__) (defBody s_Shade___init__) (defScope s_Shade___init__) .none kV_Shade___init__ dc_Shade___init__ pm_Shade___init__ an_Shade___init__ cd_Shade___init__ ct_Shade___init__), sl_Shade___init__⟩) (cc_Shade___init__ : PySem.W.codeIn K cd_Shade___init__ "Shade.__init__" = true) (k_Shade___init__ : PySem.W.keepIn K (.ref f_Shade___init__) = true)
    (a_Shade_first_node : PySem.W.findIn K (.ref A_Shade) "first_node" = some (some (.ref f_Shade_first_node))) (i_Shade_first_node : PySem.W.isFn K (.ref f_Shade_first_node) = true)
    (l_Shade_first_node : K.lookup f_Shade_first_node = some ⟨oc_Shade_first_node, od_Shade_first_node, .func (PySem.W.fnOf "first_node" "Shade.first_node" (defArgs s_Shade_first_node) (defBody s_Shade_first_node) (defScope s_Shade_first_node) .none kV_Shade_first_node dc_Shade_first_node pm_Shade_first_node an_Shade_first_node cd_Shade_first_node ct_Shade_first_node), sl_Shade_first_node⟩) (cc_Shade_first_node : PySem.W.codeIn K cd_Shade_first_node "Shade.first_node" = true) (k_Shade_first_node : PySem.W.keepIn K (.ref f_Shade_first_node) = true)
    (a_Shade_last_at : PySem.W.findIn K (.ref A_Shade) "last_at" = some (some (.ref f_Shade_last_at))) (i_Shade_last_at : PySem.W.isFn K (.ref f_Shade_last_at) = true)
    (l_Shade_last_at : K.lookup f_Shade_last_at = some ⟨oc_Shade_last_at, od_Shade_last_at, .func (PySem.W.fnOf "last_at" "Shade.last_at" (defArgs s_Shade_last_at) (defBody s_Shade_last_at) (defScope s_Shade_last_at) .none kV_Shade_last_at dc_Shade_last_at pm_Shade_last_at an_Shade_last_at cd_Shade_last_at ct_Shade_last_at), sl_Shade_last_at⟩) (cc_Shade_last_at : PySem.W.codeIn K cd_Shade_last_at "Shade.last_at" = true) (k_Shade_last_at : PySem.W.keepIn K (.ref f_Shade_last_at) = true)
    (a_Shade_nodes_at : PySem.W.findIn K (.ref A_Shade) "nodes_at" = some (some (.ref f_Shade_nodes_at))) (i_Shade_nodes_at : PySem.W.isFn K (.ref f_Shade_nodes_at) = true)
    (l_Shade_nodes_at : K.lookup f_Shade_nodes_at = some ⟨oc_Shade_nodes_at, od_Shade_nodes_at, .func (PySem.W.fnOf "nodes_at" "Shade.nodes_at" (defArgs s_Shade_nodes_at) (defBody s_Shade_nodes_at) (defScope s_Shade_nodes_at) .none kV_Shade_nodes_at dc_Shade_nodes_at pm_Shade_nodes_at an_Shade_nodes_at cd_Shade_nodes_at ct_Shade_nodes_at), sl_Shade_nodes_at⟩) (cc_Shade_nodes_at : PySem.W.codeIn K cd_Shade_nodes_at "Shade.nodes_at" = true) (k_Shade_nodes_at : PySem.W.keepIn K (.ref f_Shade_nodes_at) = true)
    (a_Shade_moves_from : PySem.W.findIn K (.ref A_Shade) "moves_from" = some (some (.ref f_Shade_moves_from))) (i_Shade_moves_from : PySem.W.isFn K (.ref f_Shade_moves_from) = true)
    (l_Shade_moves_from : K.lookup f_Shade_moves_from = some ⟨oc_Shade_moves_from, od_Shade_moves_from, .func (PySem.W.fnOf "moves_from" "Shade.moves_from" (defArgs s_Shade_moves_from) (defBody s_Shade_moves_from) (defScope s_Shade_moves_from) .none kV_Shade_moves_from dc_Shade_moves_from pm_Shade_moves_from an_Shade_moves_from cd_Shade_moves_from ct_Shade_moves_from), sl_Shade_moves_from⟩) (cc_Shade_moves_from : PySem.W.codeIn K cd_Shade_moves_from "Shade.moves_from" = true) (k_Shade_moves_from : PySem.W.keepIn K (.ref f_Shade_moves_from) = true)
    (a_Shade_is_end : PySem.W.findIn K (.ref A_Shade) "is_end" = some (some (.ref f_Shade_is_end))) (i_Shade_is_end : PySem.W.isFn K (.ref f_Shade_is_end) = true)
    (l_Shade_is_end : K.lookup f_Shade_is_end = some ⟨oc_Shade_is_end, od_Shade_is_end, .func (PySem.W.fnOf "is_end" "Shade.is_end" (defArgs s_Shade_is_end) (defBody s_Shade_is_end) (defScope s_Shade_is_end) .none kV_Shade_is_end dc_Shade_is_end pm_Shade_is_end an_Shade_is_end cd_Shade_is_end ct_Shade_is_end), sl_Shade_is_end⟩) (cc_Shade_is_end : PySem.W.codeIn K cd_Shade_is_end "Shade.is_end" = true) (k_Shade_is_end : PySem.W.keepIn K (.ref f_Shade_is_end) = true)
    (a_law_cell_at : PySem.W.nsIn K mainGlobals "_law_cell_at" = some (some (.ref f_law_cell_at)))
    (l_law_cell_at : K.lookup f_law_cell_at = some ⟨oc_law_cell_at, od_law_cell_at, .func (PySem.W.fnOf "_law_cell_at" "_law_cell_at" (defArgs s_law_cell_at) (defBody s_law_cell_at) (defScope s_law_cell_at) .none kV_law_cell_at dc_law_cell_at pm_law_cell_at an_law_cell_at cd_law_cell_at ct_law_cell_at), sl_law_cell_at⟩) (cc_law_cell_at : PySem.W.codeIn K cd_law_cell_at "_law_cell_at" = true) (k_law_cell_at : PySem.W.keepIn K (.ref f_law_cell_at) = true)
    (a_law_mix : PySem.W.nsIn K mainGlobals "_law_mix" = some (some (.ref f_law_mix)))
    (l_law_mix : K.lookup f_law_mix = some ⟨oc_law_mix, od_law_mix, .func (PySem.W.fnOf "_law_mix" "_law_mix" (defArgs s_law_mix) (defBody s_law_mix) (defScope s_law_mix) .none kV_law_mix dc_law_mix pm_law_mix an_law_mix cd_law_mix ct_law_mix), sl_law_mix⟩) (cc_law_mix : PySem.W.codeIn K cd_law_mix "_law_mix" = true) (k_law_mix : PySem.W.keepIn K (.ref f_law_mix) = true)
    (a_law_whole : PySem.W.nsIn K mainGlobals "_law_whole" = some (some (.ref f_law_whole)))
    (l_law_whole : K.lookup f_law_whole = some ⟨oc_law_whole, od_law_whole, .func (PySem.W.fnOf "_law_whole" "_law_whole" (defArgs s_law_whole) (defBody s_law_whole) (defScope s_law_whole) .none kV_law_whole dc_law_whole pm_law_whole an_law_whole cd_law_whole ct_law_whole), sl_law_whole⟩) (cc_law_whole : PySem.W.codeIn K cd_law_whole "_law_whole" = true) (k_law_whole : PySem.W.keepIn K (.ref f_law_whole) = true)
    (a_law_colours : PySem.W.nsIn K mainGlobals "_law_colours" = some (some (.ref f_law_colours)))
    (l_law_colours : K.lookup f_law_colours = some ⟨oc_law_colours, od_law_colours, .func (PySem.W.fnOf "_law_colours" "_law_colours" (defArgs s_law_colours) (defBody s_law_colours) (defScope s_law_colours) .none kV_law_colours dc_law_colours pm_law_colours an_law_colours cd_law_colours ct_law_colours), sl_law_colours⟩) (cc_law_colours : PySem.W.codeIn K cd_law_colours "_law_colours" = true) (k_law_colours : PySem.W.keepIn K (.ref f_law_colours) = true)
    (a_law_signs : PySem.W.nsIn K mainGlobals "_law_signs" = some (some (.ref f_law_signs)))
    (l_law_signs : K.lookup f_law_signs = some ⟨oc_law_signs, od_law_signs, .func (PySem.W.fnOf "_law_signs" "_law_signs" (defArgs s_law_signs) (defBody s_law_signs) (defScope s_law_signs) .none kV_law_signs dc_law_signs pm_law_signs an_law_signs cd_law_signs ct_law_signs), sl_law_signs⟩) (cc_law_signs : PySem.W.codeIn K cd_law_signs "_law_signs" = true) (k_law_signs : PySem.W.keepIn K (.ref f_law_signs) = true)
    (a_law_look : PySem.W.nsIn K mainGlobals "_law_look" = some (some (.ref f_law_look)))
    (l_law_look : K.lookup f_law_look = some ⟨oc_law_look, od_law_look, .func (PySem.W.fnOf "_law_look" "_law_look" (defArgs s_law_look) (defBody s_law_look) (defScope s_law_look) .none kV_law_look dc_law_look pm_law_look an_law_look cd_law_look ct_law_look), sl_law_look⟩) (cc_law_look : PySem.W.codeIn K cd_law_look "_law_look" = true) (k_law_look : PySem.W.keepIn K (.ref f_law_look) = true)
    (a_law_truth : PySem.W.nsIn K mainGlobals "_law_truth" = some (some (.ref f_law_truth)))
    (l_law_truth : K.lookup f_law_truth = some ⟨oc_law_truth, od_law_truth, .func (PySem.W.fnOf "_law_truth" "_law_truth" (defArgs s_law_truth) (defBody s_law_truth) (defScope s_law_truth) .none kV_law_truth dc_law_truth pm_law_truth an_law_truth cd_law_truth ct_law_truth), sl_law_truth⟩) (cc_law_truth : PySem.W.codeIn K cd_law_truth "_law_truth" = true) (k_law_truth : PySem.W.keepIn K (.ref f_law_truth) = true)
    (a_law_due : PySem.W.nsIn K mainGlobals "_law_due" = some (some (.ref f_law_due)))
    (l_law_due : K.lookup f_law_due = some ⟨oc_law_due, od_law_due, .func (PySem.W.fnOf "_law_due" "_law_due" (defArgs s_law_due) (defBody s_law_due) (defScope s_law_due) .none kV_law_due dc_law_due pm_law_due an_law_due cd_law_due ct_law_due), sl_law_due⟩) (cc_law_due : PySem.W.codeIn K cd_law_due "_law_due" = true) (k_law_due : PySem.W.keepIn K (.ref f_law_due) = true)
    (a_law_right : PySem.W.nsIn K mainGlobals "_law_right" = some (some (.ref f_law_right)))
    (l_law_right : K.lookup f_law_right = some ⟨oc_law_right, od_law_right, .func (PySem.W.fnOf "_law_right" "_law_right" (defArgs s_law_right) (defBody s_law_right) (defScope s_law_right) .none kV_law_right dc_law_right pm_law_right an_law_right cd_law_right ct_law_right), sl_law_right⟩) (cc_law_right : PySem.W.codeIn K cd_law_right "_law_right" = true) (k_law_right : PySem.W.keepIn K (.ref f_law_right) = true)
    (a_law : PySem.W.nsIn K mainGlobals "law" = some (some (.ref f_law)))
    (l_law : K.lookup f_law = some ⟨oc_law, od_law, .func (PySem.W.fnOf "law" "law" (defArgs s_law) (defBody s_law) (defScope s_law) .none kV_law dc_law pm_law an_law cd_law ct_law), sl_law⟩) (cc_law : PySem.W.codeIn K cd_law "law" = true) (k_law : PySem.W.keepIn K (.ref f_law) = true)
    (z_len : PySem.W.nsIn K mainGlobals "len" = some none)
    (z_isinstance : PySem.W.nsIn K mainGlobals "isinstance" = some none)
    (z_all : PySem.W.nsIn K mainGlobals "all" = some none)
    (z_sum : PySem.W.nsIn K mainGlobals "sum" = some none)
    (z_max : PySem.W.nsIn K mainGlobals "max" = some none)
    (z_min : PySem.W.nsIn K mainGlobals "min" = some none)
    (z_int : PySem.W.nsIn K mainGlobals "int" = some none)
    (z_str : PySem.W.nsIn K mainGlobals "str" = some none)
    (z_bool : PySem.W.nsIn K mainGlobals "bool" = some none)
    (z_list : PySem.W.nsIn K mainGlobals "list" = some none)
    (z_tuple : PySem.W.nsIn K mainGlobals "tuple" = some none)
    (z_dict : PySem.W.nsIn K mainGlobals "dict" = some none)
    (z_range : PySem.W.nsIn K mainGlobals "range" = some none)
    (z_enumerate : PySem.W.nsIn K mainGlobals "enumerate" = some none)
    (z_zip : PySem.W.nsIn K mainGlobals "zip" = some none)
    (z_sorted : PySem.W.nsIn K mainGlobals "sorted" = some none)
    (z_set : PySem.W.nsIn K mainGlobals "set" = some none)
    (a_c_ANEW_SIGN : PySem.W.nsIn K mainGlobals "ANEW_SIGN" = some (some u_ANEW_SIGN)) (r_ANEW_SIGN : RelV (.str (S [9])) u_ANEW_SIGN)
    (a_c_PLAIN : PySem.W.nsIn K mainGlobals "PLAIN" = some (some (.ref ad_PLAIN))) (l_c_PLAIN : K.lookup ad_PLAIN = some ⟨oc_PLAIN, od_PLAIN, .seq it_PLAIN nn_PLAIN, sl_PLAIN⟩) (t_c_PLAIN : oc_PLAIN = .type "tuple") (z_c_PLAIN : it_PLAIN.size ≤ sizeLine) (v_c_PLAIN : Vals (List.map (fun l => V.str (S l)) [[46], [46]]) it_PLAIN.toList)
    (a_c_ROW_END : PySem.W.nsIn K mainGlobals "ROW_END" = some (some u_ROW_END)) (r_ROW_END : RelV (.str (S [10])) u_ROW_END) :
    ∃ fd : FuncData, (∀ (s : Shared) (v : Value), BindsTo s fd ⟨[v], []⟩ [("_law_script", v)]) ∧ ∀ base : Heap, K.In base → base.Ns mainGlobals mg → FnOk l.prog w K mg base CX0 5 fa fd ["_law_script"] (sp_law K) := by
  have e := hfa.symm.trans (PySem.W.mg_of X G a_law)
  cases e
  have cl_Shade : Cls K A_Shade := ⟨pg_Shade, hd_Shade, po_Shade, sa_Shade⟩
  have K_Shade_look : KC K mg "Shade" "look" := ⟨_, PySem.W.mg_of X G aC_Shade, cl_Shade, n_look_Shade⟩
  have K_Shade_marks : KC K mg "Shade" "marks" := ⟨_, PySem.W.mg_of X G aC_Shade, cl_Shade, n_marks_Shade⟩
  have K_Shade_pairs : KC K mg "Shade" "pairs" := ⟨_, PySem.W.mg_of X G aC_Shade, cl_Shade, n_pairs_Shade⟩
  have IC_Shade_Trail : IsC K mg "Shade" "Trail" := ⟨_, _, PySem.W.mg_of X G aC_Shade, PySem.W.mg_of X G aC_Trail, ii_Shade_Trail⟩
  have D_written : Def K mg "written" s_written := ⟨_, _, PySem.W.mg_of X G a_written, fun_mk (st := s_written) l_written cc_written k_written⟩
  have D_pair_behind : Def K mg "pair_behind" s_pair_behind := ⟨_, _, PySem.W.mg_of X G a_pair_behind, fun_mk (st := s_pair_behind) l_pair_behind cc_pair_behind k_pair_behind⟩
  have D_colours_of : Def K mg "colours_of" s_colours_of := ⟨_, _, PySem.W.mg_of X G a_colours_of, fun_mk (st := s_colours_of) l_colours_of cc_colours_of k_colours_of⟩
  have D_shows : Def K mg "shows" s_shows := ⟨_, _, PySem.W.mg_of X G a_shows, fun_mk (st := s_shows) l_shows cc_shows k_shows⟩
  have D_marks_of : Def K mg "marks_of" s_marks_of := ⟨_, _, PySem.W.mg_of X G a_marks_of, fun_mk (st := s_marks_of) l_marks_of cc_marks_of k_marks_of⟩
  have D_Shade___init__ : DefC K mg "Shade" "Shade.__init__" s_Shade___init__ := ⟨_, _, _, PySem.W.mg_of X G aC_Shade, ⟨mk_Shade, a_Shade___init__, i_Shade___init__, kc_Shade⟩, fun_mk (st := s_Shade___init__) l_Shade___init__ cc_Shade___init__ k_Shade___init__⟩
  have D_Shade_first_node : DefM K mg "Shade" "first_node" "Shade.first_node" s_Shade_first_node := ⟨_, _, _, PySem.W.mg_of X G aC_Shade, cl_Shade, ⟨a_Shade_first_node, i_Shade_first_node, k_Shade_first_node⟩, fun_mk (st := s_Shade_first_node) l_Shade_first_node cc_Shade_first_node k_Shade_first_node⟩
  have D_Shade_last_at : DefM K mg "Shade" "last_at" "Shade.last_at" s_Shade_last_at := ⟨_, _, _, PySem.W.mg_of X G aC_Shade, cl_Shade, ⟨a_Shade_last_at, i_Shade_last_at, k_Shade_last_at⟩, fun_mk (st := s_Shade_last_at) l_Shade_last_at cc_Shade_last_at k_Shade_last_at⟩
  have D_Shade_nodes_at : DefM K mg "Shade" "nodes_at" "Shade.nodes_at" s_Shade_nodes_at := ⟨_, _, _, PySem.W.mg_of X G aC_Shade, cl_Shade, ⟨a_Shade_nodes_at, i_Shade_nodes_at, k_Shade_nodes_at⟩, fun_mk (st := s_Shade_nodes_at) l_Shade_nodes_at cc_Shade_nodes_at k_Shade_nodes_at⟩
  have D_Shade_moves_from : DefM K mg "Shade" "moves_from" "Shade.moves_from" s_Shade_moves_from := ⟨_, _, _, PySem.W.mg_of X G aC_Shade, cl_Shade, ⟨a_Shade_moves_from, i_Shade_moves_from, k_Shade_moves_from⟩, fun_mk (st := s_Shade_moves_from) l_Shade_moves_from cc_Shade_moves_from k_Shade_moves_from⟩
  have D_Shade_is_end : DefM K mg "Shade" "is_end" "Shade.is_end" s_Shade_is_end := ⟨_, _, _, PySem.W.mg_of X G aC_Shade, cl_Shade, ⟨a_Shade_is_end, i_Shade_is_end, k_Shade_is_end⟩, fun_mk (st := s_Shade_is_end) l_Shade_is_end cc_Shade_is_end k_Shade_is_end⟩
  have D_law_cell_at : Def K mg "_law_cell_at" s_law_cell_at := ⟨_, _, PySem.W.mg_of X G a_law_cell_at, fun_mk (st := s_law_cell_at) l_law_cell_at cc_law_cell_at k_law_cell_at⟩
  have D_law_mix : Def K mg "_law_mix" s_law_mix := ⟨_, _, PySem.W.mg_of X G a_law_mix, fun_mk (st := s_law_mix) l_law_mix cc_law_mix k_law_mix⟩
  have D_law_whole : Def K mg "_law_whole" s_law_whole := ⟨_, _, PySem.W.mg_of X G a_law_whole, fun_mk (st := s_law_whole) l_law_whole cc_law_whole k_law_whole⟩
  have D_law_colours : Def K mg "_law_colours" s_law_colours := ⟨_, _, PySem.W.mg_of X G a_law_colours, fun_mk (st := s_law_colours) l_law_colours cc_law_colours k_law_colours⟩
  have D_law_signs : Def K mg "_law_signs" s_law_signs := ⟨_, _, PySem.W.mg_of X G a_law_signs, fun_mk (st := s_law_signs) l_law_signs cc_law_signs k_law_signs⟩
  have D_law_look : Def K mg "_law_look" s_law_look := ⟨_, _, PySem.W.mg_of X G a_law_look, fun_mk (st := s_law_look) l_law_look cc_law_look k_law_look⟩
  have D_law_truth : Def K mg "_law_truth" s_law_truth := ⟨_, _, PySem.W.mg_of X G a_law_truth, fun_mk (st := s_law_truth) l_law_truth cc_law_truth k_law_truth⟩
  have D_law_due : Def K mg "_law_due" s_law_due := ⟨_, _, PySem.W.mg_of X G a_law_due, fun_mk (st := s_law_due) l_law_due cc_law_due k_law_due⟩
  have D_law_right : Def K mg "_law_right" s_law_right := ⟨_, _, PySem.W.mg_of X G a_law_right, fun_mk (st := s_law_right) l_law_right cc_law_right k_law_right⟩
  have D_law : Def K mg "law" s_law := ⟨_, _, PySem.W.mg_of X G a_law, fun_mk (st := s_law) l_law cc_law k_law⟩
  have B : Blt4 mg := ⟨⟨⟨PySem.W.mg_none_of X G z_len, PySem.W.mg_none_of X G z_isinstance, PySem.W.mg_none_of X G z_all, PySem.W.mg_none_of X G z_sum, PySem.W.mg_none_of X G z_max, PySem.W.mg_none_of X G z_min, PySem.W.mg_none_of X G z_int, PySem.W.mg_none_of X G z_str, PySem.W.mg_none_of X G z_bool, PySem.W.mg_none_of X G z_list, PySem.W.mg_none_of X G z_tuple, PySem.W.mg_none_of X G z_dict, PySem.W.mg_none_of X G z_range, PySem.W.mg_none_of X G z_enumerate, PySem.W.mg_none_of X G z_zip⟩, PySem.W.mg_none_of X G z_sorted⟩, PySem.W.mg_none_of X G z_set⟩
  have c_ANEW_SIGN : ∃ u, mg "ANEW_SIGN" = some u ∧ RelV (.str (S [9])) u := ⟨_, PySem.W.mg_of X G a_c_ANEW_SIGN, r_ANEW_SIGN⟩
  have c_PLAIN : CTup K mg "PLAIN" [[46], [46]] := ⟨ad_PLAIN, _, it_PLAIN, nn_PLAIN, PySem.W.mg_of X G a_c_PLAIN, l_c_PLAIN, t_c_PLAIN, rfl, z_c_PLAIN, v_c_PLAIN⟩
  have c_ROW_END : ∃ u, mg "ROW_END" = some u ∧ RelV (.str (S [10])) u := ⟨_, PySem.W.mg_of X G a_c_ROW_END, r_ROW_END⟩
  refine ⟨PySem.W.fnOf "law" "law" (defArgs s_law) (defBody s_law) (defScope s_law) .none kV_law dc_law pm_law an_law cd_law ct_law, fun s v => .of_eq rfl, fun base _ _ => ?_⟩
  have C_written : Can l.prog w K mg base "written" ["kind", "value"] 1 (vSp K mg [.s, .s] (rV K) c_written) := (ok_written D_written B c_ANEW_SIGN c_ROW_END)
  have C_pair_behind : Can l.prog w K mg base "pair_behind" ["pair", "kind", "value"] 1 (vSp K mg [.s, .s, .s] (rV K) c_pair_behind) := (ok_pair_behind D_pair_behind B c_PLAIN)
  have C_colours_of : Can l.prog w K mg base "colours_of" ["look", "place"] 1 (vSp K mg [.s, .s] (rO K) c_colours_of) := (ok_colours_of D_colours_of B c_PLAIN)
  have C_shows : Can l.prog w K mg base "shows" ["pair", "letter"] 1 (vSp K mg [.s, .s] (rV K) c_shows) := (ok_shows D_shows B )
  have C_marks_of : Can l.prog w K mg base "marks_of" ["inks", "grounds"] 2 (vSp K mg [.s, .s] (rO K) c_marks_of) := (ok_marks_of D_marks_of B C_written)
  have C_Shade___init__ : CanC l.prog w K mg base "Shade" ["self", "look"] 3 (vSp K mg [.v, .s] (rV K) c_Shade___init__) := (ok_Shade___init__ D_Shade___init__ B K_Shade_look K_Shade_marks K_Shade_pairs C_colours_of C_marks_of)
  have C_Shade_first_node : CanM l.prog w K mg base "Shade" "first_node" ["self"] 1 (vSp K mg [.v] (rV K) c_Shade_first_node) := (ok_Shade_first_node D_Shade_first_node B c_PLAIN)
  have C_Shade_last_at : CanM l.prog w K mg base "Shade" "last_at" ["self"] 1 (vSp K mg [.v] (rV K) c_Shade_last_at) := (ok_Shade_last_at D_Shade_last_at B K_Shade_look)
  have C_Shade_nodes_at : CanM l.prog w K mg base "Shade" "nodes_at" ["self", "at"] 1 (vSp K mg [.v, .s] (rO K) c_Shade_nodes_at) := (ok_Shade_nodes_at D_Shade_nodes_at B K_Shade_pairs)
  have C_Shade_moves_from : CanM l.prog w K mg base "Shade" "moves_from" ["self", "node"] 2 (vSp K mg [.v, .s] (rO K) c_Shade_moves_from) := (ok_Shade_moves_from D_Shade_moves_from B K_Shade_marks K_Shade_look C_pair_behind C_shows C_written)
  have C_Shade_is_end : CanM l.prog w K mg base "Shade" "is_end" ["self", "node"] 1 (vSp K mg [.v, .s] (rV K) c_Shade_is_end) := (ok_Shade_is_end D_Shade_is_end B c_PLAIN K_Shade_look)
  have C_law_cell_at : Can l.prog w K mg base "_law_cell_at" ["_law_script", "_law_k"] 1 (vSp K mg [.s, .s] (rV K) c_law_cell_at) := (ok_law_cell_at D_law_cell_at B )
  have C_law_mix : Can l.prog w K mg base "_law_mix" ["_law_cell", "_law_k"] 1 (vSp K mg [.s, .s] (rV K) c_law_mix) := (ok_law_mix D_law_mix B )
  have C_law_whole : Can l.prog w K mg base "_law_whole" ["_law_thing"] 1 (vSp K mg [.s] (rV K) c_law_whole) := (ok_law_whole D_law_whole B )
  have C_law_colours : Can l.prog w K mg base "_law_colours" ["_law_cell", "_law_many"] 1 (vSp K mg [.s, .s] (rO K) c_law_colours) := (ok_law_colours D_law_colours B )
  have C_law_signs : Can l.prog w K mg base "_law_signs" [] 1 (vSp K mg [] (rV K) c_law_signs) := (ok_law_signs D_law_signs B )
  have C_law_look : Can l.prog w K mg base "_law_look" ["_law_script"] 2 (vSp K mg [.s] (rV K) c_law_look) := (ok_law_look D_law_look B C_law_cell_at C_law_colours C_law_mix C_law_signs)
  have C_law_truth : Can l.prog w K mg base "_law_truth" ["_law_found", "_law_due_here"] 1 (vSp K mg [.s, .s] (rV K) c_law_truth) := (ok_law_truth D_law_truth B )
  have C_law_due : Can l.prog w K mg base "_law_due" ["_law_shown", "_law_inks", "_law_grounds", "_law_node"] 1 (vSp K mg [.s, .s, .s, .s] (rO K) c_law_due) := (ok_law_due D_law_due B )
  have C_law_right : Can l.prog w K mg base "_law_right" ["_law_trail", "_law_shown", "_law_inks", "_law_grounds", "_law_picks"] 3 (vSp K mg [.s, .s, .s, .s, .s] (rV K) c_law_right) := (ok_law_right D_law_right B IC_Shade_Trail C_Shade_first_node C_Shade_last_at C_Shade_nodes_at C_Shade_moves_from C_law_due C_law_whole C_law_truth C_Shade_is_end)
  have C_law : Can l.prog w K mg base "law" ["_law_script"] 5 (vSp K mg [.s] (rV K) c_law) := (ok_law D_law B C_law_look C_law_mix C_Shade___init__ C_law_right)
  obtain ⟨f', fd', hm', hk', hb', F', oc', od', osl', lk'⟩ := C_law
  have e2 := (PySem.W.mg_of X G a_law).symm.trans hm'
  cases e2
  have e3 := l_law.symm.trans lk'
  cases e3
  exact F'.imp (law_spV law_true)
theorem walk {l : PySem.W.OpenLaw} {q : Program} {loose : List Str} {XP : (Str → Option Value) → Heap → Prop} {YP : World → Heap → Prop} {d : DefRec} {K : Params → PySem.W.Frag} (hn : l.most = some 63) (hdf : d.params.defaults = [])
    (hY : ∀ (w : World) (h : Heap), YP w h → (K w.params).In h)
    (F : ∀ (w : World) (mg : Str → Option Value) (fa : Addr) (h : Heap), (K w.params).In h → h.Ns mainGlobals mg → mg d.name = some (.ref fa) →
      ∃ fd : FuncData, (∀ (s : Shared) (u : Value), BindsTo s fd ⟨[u], []⟩ [("_law_script", u)]) ∧ ∀ base : Heap, (K w.params).In base → base.Ns mainGlobals mg → FnOk l.prog w (K w.params) mg base CX0 5 fa fd ["_law_script"] (sp_law (K w.params))) :
    PySem.W.WalkO q loose XP YP l.row.toRowW d [] (fun f vs => PySem.call f vs) :=
  L2.walk_ofR (n := 63) (k := 5) (x := "_law_script") (CX := fun _ => CX0) (sp := fun w => sp_law (K w.params)) hn (by decide) hdf ⟨rfl, by decide, by decide⟩ hY F (fun _ _ a ns hl ho hS => ⟨a, ns, rfl, hS, hl, ho, fun _ => rfl⟩) fun _ _ _ _ _ z => z
end K37
open PySem PySem.W PyProof.Rows
set_option maxRecDepth 100000 in
set_option maxHeartbeats 0 in
theorem PySem.Challenge.cw_outweave_k37_shade_as_trail_holds : PySem.Challenge.rw_outweave_k37_shade_as_trail.Holds := by
  w_on; o_law; k_head; (case hw => w_witness2)
  k_fill
  refine K37.walk (l := PySem.Challenge.rw_outweave_k37_shade_as_trail) rfl rfl (fun w h Y => PySem.W.kIn_of Y) ?F
  case F =>
    intro w mg fa h KX G hmg
    refine' K37.all_mk KX G hmg ?aC_Shade ?pg_Shade ?hd_Shade ?po_Shade ?sa_Shade ?mk_Shade ?kc_Shade ?n_look_Shade ?n_marks_Shade ?n_pairs_Shade ?aC_Trail ?ii_Shade_Trail ?a_written ?l_written ?cc_written ?k_written ?a_pair_behind ?l_pair_behind ?cc_pair_behind ?k_pair_behind ?a_colours_of ?l_colours_of ?cc_colours_of ?k_colours_of ?a_shows ?l_shows ?cc_shows ?k_shows ?a_marks_of ?l_marks_of ?cc_marks_of ?k_marks_of ?a_Shade___init__ ?i_Shade___init__ ?l_Shade___init__ ?cc_Shade___init__ ?k_Shade___init__ ?a_Shade_first_node ?i_Shade_first_node ?l_Shade_first_node ?cc_Shade_first_node ?k_Shade_first_node ?a_Shade_last_at ?i_Shade_last_at ?l_Shade_last_at ?cc_Shade_last_at ?k_Shade_last_at ?a_Shade_nodes_at ?i_Shade_nodes_at ?l_Shade_nodes_at ?cc_Shade_nodes_at ?k_Shade_nodes_at ?a_Shade_moves_from ?i_Shade_moves_from ?l_Shade_moves_from ?cc_Shade_moves_from ?k_Shade_moves_from ?a_Shade_is_end ?i_Shade_is_end ?l_Shade_is_end ?cc_Shade_is_end ?k_Shade_is_end ?a_law_cell_at ?l_law_cell_at ?cc_law_cell_at ?k_law_cell_at ?a_law_mix ?l_law_mix ?cc_law_mix ?k_law_mix ?a_law_whole ?l_law_whole ?cc_law_whole ?k_law_whole ?a_law_colours ?l_law_colours ?cc_law_colours ?k_law_colours ?a_law_signs ?l_law_signs ?cc_law_signs ?k_law_signs ?a_law_look ?l_law_look ?cc_law_look ?k_law_look ?a_law_truth ?l_law_truth ?cc_law_truth ?k_law_truth ?a_law_due ?l_law_due ?cc_law_due ?k_law_due ?a_law_right ?l_law_right ?cc_law_right ?k_law_right ?a_law ?l_law ?cc_law ?k_law ?z_len ?z_isinstance ?z_all ?z_sum ?z_max ?z_min ?z_int ?z_str ?z_bool ?z_list ?z_tuple ?z_dict ?z_range ?z_enumerate ?z_zip ?z_sorted ?z_set ?a_c_ANEW_SIGN ?r_ANEW_SIGN ?a_c_PLAIN ?l_c_PLAIN ?t_c_PLAIN ?z_c_PLAIN ?v_c_PLAIN ?a_c_ROW_END ?r_ROW_END
    (case aC_Shade => k_is)
    (case pg_Shade => k_is)
    (case hd_Shade => k_is)
    (case po_Shade => k_is)
    (case sa_Shade => k_is)
    (case mk_Shade => k_is)
    (case kc_Shade => k_is)
    (case n_look_Shade => k_is)
    (case n_marks_Shade => k_is)
    (case n_pairs_Shade => k_is)
    (case aC_Trail => k_is)
    (case ii_Shade_Trail => k_is)
    (case a_written => k_is)
    (case l_written => k_is)
    (case cc_written => k_is)
    (case k_written => k_is)
    (case a_pair_behind => k_is)
    (case l_pair_behind => k_is)
    (case cc_pair_behind => k_is)
    (case k_pair_behind => k_is)
    (case a_colours_of => k_is)
    (case l_colours_of => k_is)
    (case cc_colours_of => k_is)
    (case k_colours_of => k_is)
    (case a_shows => k_is)
    (case l_shows => k_is)
    (case cc_shows => k_is)
    (case k_shows => k_is)
    (case a_marks_of => k_is)
    (case l_marks_of => k_is)
    (case cc_marks_of => k_is)
    (case k_marks_of => k_is)
    (case a_Shade___init__ => k_is)
    (case i_Shade___init__ => k_is)
    (case l_Shade___init__ => k_is)
    (case cc_Shade___init__ => k_is)
    (case k_Shade___init__ => k_is)
    (case a_Shade_first_node => k_is)
    (case i_Shade_first_node => k_is)
    (case l_Shade_first_node => k_is)
    (case cc_Shade_first_node => k_is)
    (case k_Shade_first_node => k_is)
    (case a_Shade_last_at => k_is)
    (case i_Shade_last_at => k_is)
    (case l_Shade_last_at => k_is)
    (case cc_Shade_last_at => k_is)
    (case k_Shade_last_at => k_is)
    (case a_Shade_nodes_at => k_is)
    (case i_Shade_nodes_at => k_is)
    (case l_Shade_nodes_at => k_is)
    (case cc_Shade_nodes_at => k_is)
    (case k_Shade_nodes_at => k_is)
    (case a_Shade_moves_from => k_is)
    (case i_Shade_moves_from => k_is)
    (case l_Shade_moves_from => k_is)
    (case cc_Shade_moves_from => k_is)
    (case k_Shade_moves_from => k_is)
    (case a_Shade_is_end => k_is)
    (case i_Shade_is_end => k_is)
    (case l_Shade_is_end => k_is)
    (case cc_Shade_is_end => k_is)
    (case k_Shade_is_end => k_is)
    (case a_law_cell_at => k_is)
    (case l_law_cell_at => k_is)
    (case cc_law_cell_at => k_is)
    (case k_law_cell_at => k_is)
    (case a_law_mix => k_is)
    (case l_law_mix => k_is)
    (case cc_law_mix => k_is)
    (case k_law_mix => k_is)
    (case a_law_whole => k_is)
    (case l_law_whole => k_is)
    (case cc_law_whole => k_is)
    (case k_law_whole => k_is)
    (case a_law_colours => k_is)
    (case l_law_colours => k_is)
    (case cc_law_colours => k_is)
    (case k_law_colours => k_is)
    (case a_law_signs => k_is)
    (case l_law_signs => k_is)
    (case cc_law_signs => k_is)
    (case k_law_signs => k_is)
    (case a_law_look => k_is)
    (case l_law_look => k_is)
    (case cc_law_look => k_is)
    (case k_law_look => k_is)
    (case a_law_truth => k_is)
    (case l_law_truth => k_is)
    (case cc_law_truth => k_is)
    (case k_law_truth => k_is)
    (case a_law_due => k_is)
    (case l_law_due => k_is)
    (case cc_law_due => k_is)
    (case k_law_due => k_is)
    (case a_law_right => k_is)
    (case l_law_right => k_is)
    (case cc_law_right => k_is)
    (case k_law_right => k_is)
    (case a_law => k_is)
    (case l_law => k_is)
    (case cc_law => k_is)
    (case k_law => k_is)
    (case z_len => k_is)
    (case z_isinstance => k_is)
    (case z_all => k_is)
    (case z_sum => k_is)
    (case z_max => k_is)
    (case z_min => k_is)
    (case z_int => k_is)
    (case z_str => k_is)
    (case z_bool => k_is)
    (case z_list => k_is)
    (case z_tuple => k_is)
    (case z_dict => k_is)
    (case z_range => k_is)
    (case z_enumerate => k_is)
    (case z_zip => k_is)
    (case z_sorted => k_is)
    (case z_set => k_is)
    (case a_c_ANEW_SIGN => k_is)
    (case r_ANEW_SIGN => exact ⟨_, rfl⟩)
    (case a_c_PLAIN => k_is)
    (case l_c_PLAIN => k_is)
    (case t_c_PLAIN => rfl)
    (case z_c_PLAIN => decide +kernel)
    (case v_c_PLAIN => repeat (first | exact .nil | refine .cons ⟨_, rfl⟩ ?_))
    (case a_c_ROW_END => k_is)
    (case r_ROW_END => exact ⟨_, rfl⟩)
