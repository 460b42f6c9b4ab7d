import PyProof.Rows.All
import Wide.All
import OpenK.AllK
import Wide.FinOn
import Lean
import PyProof.EqAt
import PyProof.EqKinds
import PyProof.TupleCall
import PySem.Challenge.RW_outweave_k24_full_parts
set_option Elab.async false
set_option linter.all false
set_option maxRecDepth 100000
set_option maxHeartbeats 4000000
namespace PySem.W.Fast
abbrev tw1570598984189504717 := ()
abbrev tw18034140496845440306 := ()
abbrev tw9114405248600406971 := ()
abbrev tw13293388702905677174 := ()
abbrev tw12454484152792621687 := ()
abbrev tw12933416173528607143 := ()
abbrev tw11251279116629897522 := ()
abbrev tw17472790735477722217 := ()
abbrev tw11831451735831813458 := ()
abbrev tw18233742272709846849 := ()
abbrev tw1184782779454717615 := ()
abbrev tw15182394047435485576 := ()
abbrev tw3575571826889499235 := ()
abbrev tw8520132021455256848 := ()
abbrev tw14111682360539938316 := ()
abbrev tw12818786051741687373 := ()
abbrev tw5307710889502770998 := ()
abbrev tw5625812595730476586 := ()
abbrev tw1033069722719377024 := ()
abbrev tw661157361773307878 := ()
abbrev tw11596029180782253083 := ()
abbrev tw11949851549312033219 := ()
abbrev tw11638181747006625434 := ()
abbrev tw2272849306505857960 := ()
end PySem.W.Fast
namespace PySem.W.Fast
end PySem.W.Fast
namespace L2
open PySem PySem.Spec PyProof.Rows
abbrev Key := Sum Int Str
def keyIs : Key → Value → Bool
  | .inl k, v => Value.isInt k v
  | .inr x, v => Value.isStrOf x v
def keyH (w : World) : Key → Int
  | .inl k => hashInt k
  | .inr x => hashStr w x
theorem keyIs_shape : ∀ {k : Key} {v : Value}, keyIs k v = true → (∃ i t, k = Sum.inl i ∧ v = Value.int i t) ∨ (∃ x t, k = Sum.inr x ∧ v = Value.str x t)
  | .inl i, v, h => by
    obtain ⟨t, e⟩ := Value.isInt_shape (k := i) (v := v) h
    exact .inl ⟨i, t, rfl, e⟩
  | .inr x, v, h => by
    obtain ⟨t, e⟩ := Value.isStrOf_shape (x := x) (v := v) h
    exact .inr ⟨x, t, rfl, e⟩
theorem key_ll (a b : Int) : decide ((Sum.inl a : Key) = Sum.inl b) = (a == b) := by
  by_cases e : a = b
  · subst e; simp
  · have h : ¬ (Sum.inl a : Key) = Sum.inl b := fun q => e (Sum.inl.inj q)
    rw [decide_eq_false h]
    exact (beq_eq_false_iff_ne.mpr e).symm
theorem key_rr (a b : Str) : decide ((Sum.inr a : Key) = Sum.inr b) = decide (a = b) := by
  by_cases e : a = b
  · subst e; simp
  · have h : ¬ (Sum.inr a : Key) = Sum.inr b := fun q => e (Sum.inr.inj q)
    rw [decide_eq_false h, decide_eq_false e]
theorem key_lr (a : Int) (b : Str) : decide ((Sum.inl a : Key) = Sum.inr b) = false := decide_eq_false (fun q => nomatch q)
theorem key_rl (a : Str) (b : Int) : decide ((Sum.inr a : Key) = Sum.inl b) = false := decide_eq_false (fun q => nomatch q)
def mixKind (prog : Program) (w : World) : PySem.KeyKind prog w Key where
  is := keyIs
  hash := keyH w
  inj := fun v a b ha hb => by
    rcases keyIs_shape ha with ⟨i, t, rfl, rfl⟩ | ⟨x, t, rfl, rfl⟩
    · rcases keyIs_shape hb with ⟨j, u, rfl, e⟩ | ⟨y, u, rfl, e⟩
      · injection e with e1 _; rw [e1]
      · exact nomatch e
    · rcases keyIs_shape hb with ⟨j, u, rfl, e⟩ | ⟨y, u, rfl, e⟩
      · exact nomatch e
      · injection e with e1 _; rw [e1]
  byValue := fun k v h => by
    rcases keyIs_shape h with ⟨i, t, rfl, rfl⟩ | ⟨x, t, rfl, rfl⟩ <;> rfl
  pyHash := fun hv h => by
    rcases keyIs_shape hv with ⟨i, t, rfl, rfl⟩ | ⟨x, t, rfl, rfl⟩
    · exact wpAny_pyHash_int h
    · exact wpAny_pyHash_str h
  eqBool := fun hu hv h => by
    rcases keyIs_shape hu with ⟨i, t, rfl, rfl⟩ | ⟨x, t, rfl, rfl⟩
    · rcases keyIs_shape hv with ⟨j, u, rfl, rfl⟩ | ⟨y, u, rfl, rfl⟩
      · rw [key_ll] at h; exact wpAny_eqBool_int h
      · rw [key_lr] at h; exact SeqAt.EqAt.int_str i t y u _ _ _ _ h
    · rcases keyIs_shape hv with ⟨j, u, rfl, rfl⟩ | ⟨y, u, rfl, rfl⟩
      · rw [key_rl] at h; exact SeqAt.EqAt.str_int x t j u _ _ _ _ h
      · rw [key_rr] at h; exact wpAny_eqBool_str h
  «strs» := fun k x t v h => by
    rcases keyIs_shape h with ⟨i, u, rfl, e⟩ | ⟨y, u, rfl, e⟩
    · exact nomatch e
    · injection e with e1 _
      subst e1
      cases v <;> rfl
end L2
namespace L2
open PySem PySem.Spec PyProof.Rows
inductive V where
  | non | bl (b : Bool) | int (i : Int) | str (x : Str) | byt (b : Array UInt8) | flt (b : UInt64) | ref (a : Addr) | ty (n : String)
  deriving DecidableEq
def RelV : V → Value → Prop
  | .non, u => u = Value.none
  | .bl b, u => u = Value.bool b
  | .int i, u => ∃ t, u = Value.int i t
  | .str x, u => ∃ t, u = Value.str x t
  | .byt b, u => ∃ t, u = Value.bytes b t
  | .flt b, u => ∃ t, u = Value.float b t
  | .ref a, u => u = Value.ref a
  | .ty n, u => u = Value.type n
abbrev Vals : List V → List Value → Prop := Paired RelV
theorem Vals.length {xs : List V} {us : List Value} (r : Vals xs us) : xs.length = us.length := Paired.length r
theorem Vals.get : ∀ {xs : List V} {us : List Value} {i : Nat} {x : V}, Vals xs us → xs[i]? = some x → ∃ u, us[i]? = some u ∧ RelV x u
  | _, _, _, _, .nil, e => by simp at e
  | _, _, 0, _, .cons r _, e => by simp at e; subst e; exact ⟨_, rfl, r⟩
  | _, _, i + 1, x, .cons _ t, e => by
    obtain ⟨u, h1, h2⟩ := Vals.get (i := i) (x := x) t (by simpa using e)
    exact ⟨u, by simpa using h1, h2⟩
theorem Vals.set {x : V} {u : Value} (r : RelV x u) : ∀ {xs : List V} {us : List Value} (i : Nat), Vals xs us → Vals (xs.set i x) (us.set i u)
  | _, _, _, .nil => .nil
  | _, _, 0, .cons _ t => .cons r t
  | _, _, i + 1, .cons q t => .cons q (Vals.set r i t)
theorem Vals.append : ∀ {xs ys : List V} {us ws : List Value}, Vals xs us → Vals ys ws → Vals (xs ++ ys) (us ++ ws)
  | _, _, _, _, .nil, s => s
  | _, _, _, _, .cons r t, s => .cons r (Vals.append t s)
theorem Vals.take : ∀ {xs : List V} {us : List Value} (n : Nat), Vals xs us → Vals (xs.take n) (us.take n)
  | _, _, 0, _ => .nil
  | _, _, _ + 1, .nil => .nil
  | _, _, n + 1, .cons r t => .cons r (Vals.take n t)
theorem Vals.drop : ∀ {xs : List V} {us : List Value} (n : Nat), Vals xs us → Vals (xs.drop n) (us.drop n)
  | _, _, 0, r => r
  | _, _, _ + 1, .nil => .nil
  | _, _, n + 1, .cons _ t => Vals.drop n t
def RelO : Option V → Option Value → Prop
  | some v, some u => RelV v u
  | none, none => True
  | _, _ => False
def KV {κ : Type} : List (κ × V) → List (κ × Value) → Prop := Paired fun (p : κ × V) (q : κ × Value) => p.1 = q.1 ∧ RelV p.2 q.2
def kV : Key → V
  | .inl i => .int i
  | .inr x => .str x
inductive HO where
    | lst (xs : List V)
    | tup (xs : List V)
    | dK (kvs : List (Key × V)) | dT (kvs : List (List Key × V))
    | set (S : Int → Bool) (n : Nat)
    | ins (C dx : Addr) (fs : List (Str × V))
    | own (x : Addr)
    | xd (fs : List (Str × V))
    | met (f x : Addr)
    | rng (lo hi : Int)
    | frz (o : Obj) (u : HO)
    | tbl (ps : Array Value)
    | ext (φ : Heap → Prop)
abbrev Hp := Addr → Option HO
def upd (H : Hp) (a : Addr) (o : HO) : Hp := fun b => if b = a then some o else H b
theorem upd_same {H : Hp} {a : Addr} {o : HO} : upd H a o a = some o := by unfold upd; rw [if_pos rfl]
theorem upd_ne {H : Hp} {a b : Addr} {o : HO} (h : b ≠ a) : upd H a o b = H b := by unfold upd; rw [if_neg h]
theorem ne_of_none {H : Hp} {a b : Addr} {o : HO} (h : H a = some o) (h' : H b = none) : a ≠ b := by
  intro e; subst e; rw [h] at h'; cases h'
section
variable (P : Program) (w : World)
def ObjOk (H : Hp) (h : Heap) (a : Addr) : HO → Prop
  | .lst xs => xs.length ≤ sizeLine ∧ ∃ (its : List Value) (n : Nat), Vals xs its ∧ h.get? a = some { cls := .type "list", data := .seq its.toArray n }
  | .tup xs => xs.length ≤ sizeLine ∧ ∃ its : List Value, Vals xs its ∧ IsTup h a its.toArray
  | .dK kvs => kvs.length ≤ sizeLine ∧ (a == sysModules) = false ∧ ∃ vs, KV kvs vs ∧ h.DictOf (mixKind P w) a vs
  | .dT kvs => kvs.length ≤ sizeLine ∧ (a == sysModules) = false ∧ ∃ xs : List (List Key × Addr × Value),
      Paired (fun (p : List Key × V) (q : List Key × Addr × Value) => p.1 = q.1 ∧ H q.2.1 = some (.tup (p.1.map kV)) ∧ RelV p.2 q.2.2) kvs xs ∧
      ∃ o es ep, h.get? a = some o ∧ o.ExactDict ∧ o.data = .dict es ep ∧ es.toList = xs.map (entryOfKey (tupleKind (mixKind P w))) ∧ (xs.map (·.1)).Nodup
  | .set S n => h.SetOf (intKind P w) a S n
  | .ins C dx fs => H dx = some (.own a) ∧ fs.length ≤ 1000 ∧ dx ≠ a ∧ h.get? a = some (PySem.W.instObj C dx) ∧
      ∃ mA, h.Ns1 dx mA ∧ (∀ f, RelO (fs.lookup f) (mA f)) ∧ PySem.Within mA (fs.map (·.1))
  | .own _ => ∃ o, h.get? a = some o
  | .xd fs => ∃ mA, h.Ns1 a mA ∧ ∀ f, RelO (fs.lookup f) (mA f)
  | .rng lo hi => ∃ t u v, h.get? a = some { cls := .type "range", data := .fields #[.int lo t, .int hi u, .int 1 v] }
  | .frz o u => h.get? a = some o ∧ ObjOk H h a u
  | .tbl ps => h.get? a = some { cls := .none, data := .fields ps }
  | .met f x => h.get? a = some (PySem.W.methodObj (.ref f) (.ref x))
  | .ext φ => φ h ∧ (∃ o, h.get? a = some o) ∧ ∀ h1 h2 : Heap, φ h1 → (∀ o, h1.get? a = some o → h2.get? a = some o) → φ h2
def HOk (H : Hp) (h : Heap) : Prop := ∀ a o, H a = some o → ObjOk P w H h a o
end
section
variable {P : Program} {w : World} {H H' : Hp} {h h' : Heap} {a : Addr} {o : HO}
theorem ObjOk.lt (x : ObjOk P w H h a o) : a < h.objs.size := by
  cases o with
  | lst xs => obtain ⟨_, _, _, _, e⟩ := x; exact Heap.lt_size e
  | tup xs => obtain ⟨_, _, _, p⟩ := x; exact p.lt
  | dK kvs => obtain ⟨_, _, _, _, o, _, _, e, _⟩ := x; exact Heap.lt_size e
  | dT kvs => obtain ⟨_, _, _, _, o, _, _, e, _⟩ := x; exact Heap.lt_size e
  | set S n => obtain ⟨o, _, _, _, e, _⟩ := x; exact Heap.lt_size e
  | ins C dx fs => obtain ⟨_, _, _, e, _⟩ := x; exact Heap.lt_size e
  | own y => obtain ⟨_, e⟩ := x; exact Heap.lt_size e
  | xd fs => obtain ⟨_, ⟨_, _, _, e, _⟩, _⟩ := x; exact Heap.lt_size e
  | rng lo hi => obtain ⟨_, _, _, e⟩ := x; exact Heap.lt_size e
  | frz ob u => obtain ⟨e, _⟩ := x; exact Heap.lt_size e
  | tbl ps => exact Heap.lt_size (show h.get? a = some _ from x)
  | met f y => exact Heap.lt_size (show h.get? a = some _ from x)
  | ext φ => obtain ⟨_, ⟨_, e⟩, _⟩ := x; exact Heap.lt_size e
theorem Paired.mapP {α β : Type} {F G : α → β → Prop} : ∀ {l₁ : List α} {l₂ : List β}, Paired F l₁ l₂ → (∀ a b, F a b → G a b) → Paired G l₁ l₂
  | _, _, .nil, _ => .nil
  | _, _, .cons r t, f => .cons (f _ _ r) (Paired.mapP t f)
theorem ObjOk.stay (x : ObjOk P w H h a o) (k : ∀ b u, (b = a ∨ H b = some (.own a)) → h.get? b = some u → h'.get? b = some u)
    (ho : ∀ b, H b = some (.own a) → H' b = some (.own a)) (ht : ∀ b xs, H b = some (.tup xs) → H' b = some (.tup xs)) : ObjOk P w H' h' a o := by
  induction o with
  | lst xs => obtain ⟨z, its, n, r, e⟩ := x; exact ⟨z, its, n, r, k _ _ (.inl rfl) e⟩
  | tup xs => obtain ⟨z, its, r, ob, e, c⟩ := x; exact ⟨z, its, r, ob, k _ _ (.inl rfl) e, c⟩
  | dK kvs => obtain ⟨z, y, vs, r, ob, es, ep, e, c⟩ := x; exact ⟨z, y, vs, r, ob, es, ep, k _ _ (.inl rfl) e, c⟩
  | dT kvs =>
    obtain ⟨z, y, xs, r, ob, es, ep, e, c⟩ := x
    exact ⟨z, y, xs, Paired.mapP r fun p q z => ⟨z.1, ht _ _ z.2.1, z.2.2⟩, ob, es, ep, k _ _ (.inl rfl) e, c⟩
  | set S n => obtain ⟨ob, es, ep, t, e, c⟩ := x; exact ⟨ob, es, ep, t, k _ _ (.inl rfl) e, c⟩
  | ins C dx fs =>
    obtain ⟨d, z, ne, e, mA, ⟨od, es, ep, e2, c⟩, r⟩ := x
    exact ⟨ho _ d, z, ne, k _ _ (.inl rfl) e, mA, ⟨od, es, ep, k _ _ (.inr d) e2, c⟩, r⟩
  | own y => obtain ⟨ob, e⟩ := x; exact ⟨ob, k _ _ (.inl rfl) e⟩
  | xd fs => obtain ⟨mA, ⟨od, es, ep, e, c⟩, r⟩ := x; exact ⟨mA, ⟨od, es, ep, k _ _ (.inl rfl) e, c⟩, r⟩
  | rng lo hi => obtain ⟨t, u, v, e⟩ := x; exact ⟨t, u, v, k _ _ (.inl rfl) e⟩
  | frz ob u ih => obtain ⟨e, q⟩ := x; exact ⟨k _ _ (.inl rfl) e, ih q⟩
  | tbl ps =>
    have e : h.get? a = some { cls := .none, data := .fields ps } := x
    show h'.get? a = some { cls := .none, data := .fields ps }
    exact k a _ (.inl rfl) e
  | met f y =>
    have e : h.get? a = some (PySem.W.methodObj (.ref f) (.ref y)) := x
    show h'.get? a = some (PySem.W.methodObj (.ref f) (.ref y))
    exact k a _ (.inl rfl) e
  | ext φ => obtain ⟨p, ⟨o, e⟩, st⟩ := x; exact ⟨st _ _ p fun o q => k _ _ (.inl rfl) q, ⟨o, k _ _ (.inl rfl) e⟩, st⟩
theorem HOk.lt (x : HOk P w H h) (e : H a = some o) : a < h.objs.size := (x a o e).lt
theorem HOk.fresh (x : HOk P w H h) (e : h.objs.size ≤ a) : H a = none := by
  cases q : H a with
  | none => rfl
  | some u => exact absurd (Nat.lt_of_lt_of_le (x.lt q) e) (Nat.lt_irrefl _)
theorem HOk.kept (x : HOk P w H h) (k : ∀ b u, h.get? b = some u → h'.get? b = some u) : HOk P w H h' := fun a o e =>
  (x a o e).stay (fun b u _ q => k b u q) (fun _ q => q) fun _ _ q => q
theorem HOk.laid (x : HOk P w H h) (k : ∀ b u, h.get? b = some u → h'.get? b = some u) (hp : h.objs.size ≤ a) (new : ObjOk P w (upd H a o) h' a o) : HOk P w (upd H a o) h' := fun b u e => by
  have hn := x.fresh hp
  by_cases hb : b = a
  · subst hb; rw [upd_same] at e; cases e; exact new
  · rw [upd_ne hb] at e
    exact (x b u e).stay (fun c v _ q => k c v q) (fun c q => by rw [upd_ne (ne_of_none q hn)]; exact q) fun c xs q => by rw [upd_ne (ne_of_none q hn)]; exact q
end
def Rd (H : Hp) (a : Addr) (u : HO) : Prop := H a = some u ∨ ∃ o, H a = some (.frz o u)
theorem Rd.ok {P : Program} {w : World} {H : Hp} {h : Heap} {a : Addr} {u : HO} (r : Rd H a u) (x : HOk P w H h) : ObjOk P w H h a u := by
  rcases r with r | ⟨o, r⟩
  · exact x a u r
  · obtain ⟨_, q⟩ := x a _ r
    exact q
def Mut : Option HO → Prop
  | some (.lst _) => True
  | some (.dK _) => True
  | some (.dT _) => True
  | some (.set _ _) => True
  | some (.ins _ _ _) => True
  | some (.ext _) => True
  | _ => False
section
variable {P : Program} {w : World} {H : Hp} {h h' : Heap} {x e : Addr} {o' : HO}
theorem HOk.write (ok : HOk P w H h) (mu : Mut (H x)) (he : e = x ∨ H e = some (.own x)) (k : ∀ b u, b ≠ e → h.get? b = some u → h'.get? b = some u) (heo : ∃ u, h'.get? e = some u)
    (new : ObjOk P w (upd H x o') h' x o') : HOk P w (upd H x o') h' := fun b u q => by
  have nown : ∀ c y, H c = some (.own y) → c ≠ x := fun c y r z => by subst z; rw [r] at mu; exact mu
  have ntup : ∀ c xs, H c = some (.tup xs) → c ≠ x := fun c xs r z => by subst z; rw [r] at mu; exact mu
  by_cases hb : b = x
  · subst hb; rw [upd_same] at q; cases q; exact new
  · rw [upd_ne hb] at q
    by_cases hbe : b = e
    · have q' : H b = some (.own x) := by
        rcases he with z | z
        · exact absurd (hbe.trans z) hb
        · rw [hbe]; exact z
      rw [q] at q'; cases q'
      obtain ⟨v, hv⟩ := heo
      exact ⟨v, by rw [hbe]; exact hv⟩
    · refine (ok b u q).stay (fun c v hc r => k c v ?_ r) (fun c r => by rw [upd_ne (nown c b r)]; exact r) fun c xs r => by rw [upd_ne (ntup c xs r)]; exact r
      rcases hc with rfl | hc
      · exact hbe
      · rintro rfl
        rcases he with z | z
        · exact nown c b hc z
        · rw [hc] at z; cases z; exact hb rfl
end
structure Un (fs ex : List Addr) (H H' : Hp) (h h' : Heap) : Prop where
  keep : ∀ b o, h.get? b = some o → H b = none → b ∉ fs → b ∉ ex → h'.get? b = some o
  slot : ∀ b o, h.get? b = some o → H b = none → b ∈ fs → b ∉ ex → ∃ sl, h'.get? b = some { o with slots := sl }
  free : ∀ b o, h.get? b = some o → H b = none → b ∉ ex → H' b = none
  there : ∀ b o, h.get? b = some o → b ∉ ex → ∃ o', h'.get? b = some o'
  tups : ∀ b xs, H b = some (.tup xs) → H' b = some (.tup xs)
  frzs : ∀ b o u, H b = some (.frz o u) → H' b = some (.frz o u)
  tbls : ∀ b ps, H b = some (.tbl ps) → ∃ more, H' b = some (.tbl (ps ++ more))
section
variable {fs fs' ex ex' : List Addr} {H H1 H2 : Hp} {h h1 h2 h' : Heap} {a x e : Addr} {o : HO}
theorem Un.any (u : Un fs ex H H1 h h1) {b : Addr} {ob : Obj} (q : h.get? b = some ob) (n : H b = none) (hx : b ∉ ex) : ∃ sl, h1.get? b = some { ob with slots := sl } := by
  by_cases hb : b ∈ fs
  · exact u.slot b ob q n hb hx
  · exact ⟨ob.slots, u.keep b ob q n hb hx⟩
theorem Un.kept (k : ∀ b u, h.get? b = some u → h'.get? b = some u) : Un fs ex H H h h' :=
  ⟨fun b ob q _ _ _ => k b ob q, fun b ob q _ _ _ => ⟨ob.slots, k b ob q⟩, fun _ _ _ n _ => n, fun b ob q _ => ⟨ob, k b ob q⟩, fun _ _ q => q, fun _ _ _ q => q, fun _ ps q => ⟨#[], by rw [q]; simp⟩⟩
theorem Un.refl : Un fs ex H H h h := Un.kept fun _ _ q => q
theorem Un.laid (k : ∀ b u, h.get? b = some u → h'.get? b = some u) (hp : h.objs.size ≤ a) (hn : H a = none) : Un fs ex H (upd H a o) h h' where
  keep := fun b u q _ _ _ => k b u q
  slot := fun b u q _ _ _ => ⟨u.slots, k b u q⟩
  free := fun b u q n _ => by rw [upd_ne (Nat.ne_of_lt (Nat.lt_of_lt_of_le (Heap.lt_size q) hp))]; exact n
  there := fun b u q _ => ⟨u, k b u q⟩
  tups := fun b xs q => by rw [upd_ne (ne_of_none q hn)]; exact q
  frzs := fun b u xs q => by rw [upd_ne (ne_of_none q hn)]; exact q
  tbls := fun b ps q => ⟨#[], by rw [upd_ne (ne_of_none q hn), q]; simp⟩
theorem Un.write (mu : Mut (H x)) (he : e = x ∨ H e = some (.own x)) (k : ∀ b u, b ≠ e → h.get? b = some u → h'.get? b = some u) (heo : ∃ u, h'.get? e = some u) : Un fs ex H (upd H x o) h h' := by
  have hx : ∀ b, H b = none → b ≠ x := fun b n z => by subst z; rw [n] at mu; exact mu
  have hb : ∀ b, H b = none → b ≠ e := fun b n z => by
    subst z
    rcases he with r | r
    · exact hx b n r
    · rw [n] at r; cases r
  have hm : ∀ b u, H b = some u → ¬ Mut (some u) → b ≠ x := fun b u q nm z => by subst z; rw [q] at mu; exact nm mu
  refine ⟨fun b u q n _ _ => k b u (hb b n) q, fun b u q n _ _ => ⟨u.slots, k b u (hb b n) q⟩, fun b u q n _ => by rw [upd_ne (hx b n)]; exact n, fun b u q _ => ?_,
    fun b xs q => by rw [upd_ne (hm b _ q fun z => z)]; exact q, fun b u xs q => by rw [upd_ne (hm b _ q fun z => z)]; exact q, fun b ps q => ⟨#[], by rw [upd_ne (hm b _ q fun z => z), q]; simp⟩⟩
  by_cases hbe : b = e
  · subst hbe; exact heo
  · exact ⟨u, k b u hbe q⟩
end
def trk (h : Heap) (H : Hp) : List Addr := (List.range h.objs.size).filter fun a => (H a).isSome
def hidT (h : Heap) (H : Hp) : Heap := PySem.W.hideAll h (trk h H)
theorem hidT_size (h : Heap) (H : Hp) : (hidT h H).objs.size = h.objs.size := PySem.W.hideAll_size _ _
theorem hidT_get {h : Heap} {H : Hp} {b : Addr} {o : Obj} (e : h.get? b = some o) (n : H b = none) : (hidT h H).get? b = some o :=
  PySem.W.hideAll_get _ e fun hm => by
    have q : (H b).isSome = true := (List.mem_filter.mp hm).2
    rw [n] at q; simp at q
theorem of_hidT {h : Heap} {H : Hp} {b : Addr} {o : Obj} (e : (hidT h H).get? b = some o) : h.get? b = some o ∧ H b = none := by
  have e' : h.get? b = some o := PySem.W.of_hideAll (trk h H) e
  refine ⟨e', ?_⟩
  cases q : H b with
  | none => rfl
  | some x =>
    have hm : b ∈ trk h H := List.mem_filter.mpr ⟨List.mem_range.mpr (Heap.lt_size e'), by simp [q]⟩
    have z : (hidT h H).get? b = none := PySem.W.hideAll_none (trk h H) hm
    rw [z] at e; cases e
def allNews (g h : Heap) (L : Addr) : List (Addr × Obj) := (List.range h.objs.size).filterMap fun a => if a = L ∨ (g.get? a).isSome = true then none else (h.get? a).map fun o => (a, o)
def rest (g h : Heap) (L d : Addr) : List (Addr × Obj) := (allNews g h L).filter fun p => decide (p.1 ≠ d)
end L2
namespace L2
open PySem PySem.Spec PyProof.Rows
structure Mod (K : PySem.W.Frag) (mg : Str → Option Value) (base : Heap) : Prop where
  kin : K.In base
  glob : base.Ns mainGlobals mg
  blt : ∃ mb, base.Ns builtinsNs mb ∧ ∀ x : Str, x ≠ "__name__" → mb x = bootBuiltins x
  nolimit : base.NoLimit
structure Cx where
  prog : Program
  w : World
  K : PySem.W.Frag
  mg : Str → Option Value
  base : Heap
  A : Around
  N : List Str
  s₀ : Shared
  H₀ : Hp
  env : Env
  outer : List Env
  stack : List Env
  ex : List Addr
  fn : Str → Bool
  calm : Bool
  pn : List (Addr × Obj)
  xe : Value → Shared → Prop
def frs (l : List Env) : List Addr := l.filterMap (·.frame)
abbrev Cx.fs (X : Cx) : List Addr := frs X.outer
def Vis (sc : Scope) (x : Str) : Prop := sc.names.lookup x = some .local ∨ sc.names.lookup x = some .cell ∨ sc.names.lookup x = some .free
def Loc (sc : Scope) (x : Str) : Prop := sc.names.lookup x = some .local ∨ sc.names.lookup x = some .cell
def Look (env : Env) (h : Heap) (m : Str → Option Value) (x : Str) (u : Value) : Prop :=
  (env.kindOf x = some .local ∧ m x = some u) ∨ ((env.kindOf x = some .cell ∨ env.kindOf x = some .free) ∧ ∃ c, env.cells.lookup x = some c ∧ h.IsCell c (some u))
structure Cx.Ok (X : Cx) : Prop where
  mod : Mod X.K X.mg X.base
  kind : X.env.scope.kind = .function
  glob : X.env.globals = mainGlobals
  blt : X.env.builtins = builtinsNs
  above : X.s₀.heap.objs.size ≤ X.env.locals
  inj : ∀ x y c, X.env.cells.lookup x = some c → X.env.cells.lookup y = some c → x = y
  has : ∀ x, (X.env.kindOf x = some .cell ∨ X.env.kindOf x = some .free) → ∃ c, X.env.cells.lookup x = some c
  cab : ∀ x c, X.fn x = true → X.env.cells.lookup x = some c → X.s₀.heap.objs.size ≤ c
  hd : X.calm = true → X.A.handled = none
  frames : X.A.frames = some X.stack
  stk : X.stack = X.outer ∨ (X.stack = X.env :: X.outer ∧ X.env.frame = some X.env.locals)
  exf : ∀ b ∈ X.ex, b ≠ X.env.locals ∧ ∀ x c, X.env.cells.lookup x = some c → c ≠ b
  bs : ∀ b o, X.base.get? b = some o → X.s₀.heap.get? b = some o ∧ X.H₀ b = none
  bsz : X.base.objs.size ≤ X.s₀.heap.objs.size
  noex : ∀ b o, X.base.get? b = some o → b ∉ X.ex
  exfs : ∀ b ∈ X.ex, b ∉ X.fs
  funs : X.s₀.heap.FunFrames X.base X.outer
  frf : ∀ b ∈ X.fs, X.H₀ b = none
structure Inv (X : Cx) (pins : List (Addr × Obj)) (σ : List (Option V)) (H : Hp) (s : Shared) : Prop where
  ok : X.Ok
  os : s.os = X.s₀.os
  bare : AllBare s.gens
  base : Un X.fs X.ex X.H₀ H X.s₀.heap s.heap
  loc : ∃ m, s.heap.Ns X.env.locals m ∧ ∀ (i : Nat) (x : Str) (v : V), X.N[i]? = some x → σ[i]? = some (some v) → Vis X.env.scope x → ∃ u, RelV v u ∧ Look X.env s.heap m x u
  cell : ∀ x c, X.env.cells.lookup x = some c → ∃ v, s.heap.IsCell c v
  free : H X.env.locals = none
  freeC : ∀ x c, X.env.cells.lookup x = some c → H c = none
  pin : ∀ p ∈ X.pn ++ pins, s.heap.get? p.1 = some p.2 ∧ H p.1 = none ∧ p.1 ≠ X.env.locals ∧ p.1 ∉ X.fs ∧ ∀ v, p.2.data ≠ .cell v
  hok : HOk X.prog X.w H s.heap
  len : σ.length = X.N.length
section
variable {X : Cx} {pins : List (Addr × Obj)} {σ : List (Option V)} {H H' : Hp} {s : Shared} {h' : Heap}
theorem Cx.Ok.nofr (ok : X.Ok) {b : Addr} {o : Obj} (e : X.base.get? b = some o) : b ∉ X.fs := fun hb => by
  have := (ok.funs.mem hb).1
  rw [e] at this; cases this
theorem Inv.bs (I : Inv X pins σ H s) : ∀ b o, X.base.get? b = some o → s.heap.get? b = some o ∧ H b = none := fun b o e =>
  ⟨I.base.keep b o (I.ok.bs b o e).1 (I.ok.bs b o e).2 (I.ok.nofr e) (I.ok.noex b o e), I.base.free b o (I.ok.bs b o e).1 (I.ok.bs b o e).2 (I.ok.noex b o e)⟩
theorem Inv.bk (I : Inv X pins σ H s) : ∀ b o, X.base.get? b = some o → s.heap.get? b = some o := fun b o e => (I.bs b o e).1
theorem Inv.mod (I : Inv X pins σ H s) : Mod X.K X.mg X.base := I.ok.mod
theorem Inv.kIn (I : Inv X pins σ H s) : X.K.In s.heap := I.ok.mod.kin.keeps I.bk
theorem Inv.lt (I : Inv X pins σ H s) : X.env.locals < s.heap.objs.size := let ⟨_, hn, _⟩ := I.loc; hn.lt
theorem Inv.sz (I : Inv X pins σ H s) : X.s₀.heap.objs.size ≤ s.heap.objs.size := Nat.le_trans I.ok.above (Nat.le_of_lt I.lt)
theorem Inv.nofs (I : Inv X pins σ H s) {a : Addr} (h : s.heap.objs.size ≤ a) : a ∉ X.fs := fun hb => by
  obtain ⟨_, o, ho, _⟩ := I.ok.funs.mem hb
  exact absurd (Nat.lt_of_lt_of_le (Heap.lt_size ho) (Nat.le_trans I.sz h)) (Nat.lt_irrefl _)
theorem Inv.cne (I : Inv X pins σ H s) : ∀ x c, X.env.cells.lookup x = some c → c ≠ X.env.locals := fun x c e z => by
  obtain ⟨v, o, ho, hd⟩ := I.cell x c e
  obtain ⟨m, ⟨o', es, ep, ho', hd', _⟩, _⟩ := I.loc
  rw [z, ho'] at ho; cases ho; rw [hd'] at hd; cases hd
theorem Inv.funs (I : Inv X pins σ H s) : s.heap.FunFrames X.base X.outer := by
  have all : ∀ (l : List Env), (∀ b ∈ frs l, b ∈ X.fs) → X.s₀.heap.FunFrames X.base l → s.heap.FunFrames X.base l := by
    intro l
    induction l with
    | nil => intro _ _; trivial
    | cons env r ih =>
      intro hs hl
      obtain ⟨hk, ⟨L, o, hf, hn, ho, hd⟩, hr⟩ := hl
      have hL : L ∈ X.fs := hs L (by unfold frs; rw [List.filterMap_cons, hf]; exact List.mem_cons_self)
      obtain ⟨sl, e⟩ := I.base.slot L o ho (I.ok.frf L hL) hL fun z => I.ok.exfs L z hL
      exact ⟨hk, ⟨L, _, hf, hn, e, hd⟩, ih (fun b hb => hs b (by unfold frs; rw [List.filterMap_cons, hf]; exact List.mem_cons_of_mem _ hb)) hr⟩
  exact all X.outer (fun _ hb => hb) I.ok.funs
theorem Inv.stack (I : Inv X pins σ H s) : s.heap.FunFrames X.base X.stack := by
  rcases I.ok.stk with e | ⟨e, hf⟩
  · rw [e]; exact I.funs
  · rw [e]
    obtain ⟨m, hn, _⟩ := I.loc
    refine .cons (by rw [I.ok.kind]; decide) hf hn ?_ I.funs
    exact Heap.get?_none_of_le (Nat.le_trans I.ok.bsz I.ok.above)
theorem Inv.stkSub (I : Inv X pins σ H s) : ∀ b ∈ frs X.stack, b ∈ X.env.locals :: X.fs := fun b hb => by
  rcases I.ok.stk with e | ⟨e, hf⟩
  · rw [e] at hb; exact List.mem_cons_of_mem _ hb
  · rw [e] at hb
    unfold frs at hb
    rw [List.filterMap_cons, hf] at hb
    exact hb
theorem Inv.stkFree (I : Inv X pins σ H s) : ∀ b ∈ frs X.stack, H b = none := fun b hb => by
  rcases List.mem_cons.mp (I.stkSub b hb) with e | hb
  · rw [e]; exact I.free
  · obtain ⟨_, o, ho, _⟩ := I.ok.funs.mem hb
    exact I.base.free b o ho (I.ok.frf b hb) fun z => I.ok.exfs b z hb
theorem Inv.step {g' : Array GenState} {t' : Nat} {d' : Drawn} {ch : List Addr} (I : Inv X pins σ H s)
    (hch : ∀ b ∈ ch, (b ∈ X.ex ∨ X.s₀.heap.objs.size ≤ b) ∧ b ≠ X.env.locals ∧ (∀ x c, X.env.cells.lookup x = some c → c ≠ b) ∧ ∀ p ∈ X.pn ++ pins, p.1 ≠ b)
    (keep : ∀ b o, b ≠ X.env.locals → b ∉ X.fs → b ∉ ch → s.heap.get? b = some o → H b = none → h'.get? b = some o)
    (slot : ∀ b o, b ≠ X.env.locals → b ∈ X.fs → b ∉ ch → s.heap.get? b = some o → H b = none → ∃ sl, h'.get? b = some { o with slots := sl }) (free : ∀ b o, b ∉ ch → s.heap.get? b = some o → H b = none → H' b = none)
    (there : ∀ b o, b ∉ ch → s.heap.get? b = some o → ∃ o', h'.get? b = some o')
    (tups : ∀ b xs, H b = some (.tup xs) → H' b = some (.tup xs)) (frzs : ∀ b o u, H b = some (.frz o u) → H' b = some (.frz o u)) (tbls : ∀ b ps, H b = some (.tbl ps) → ∃ more, H' b = some (.tbl (ps ++ more)))
    (ns : ∀ m, s.heap.Ns X.env.locals m → h'.Ns X.env.locals m) (hok : HOk X.prog X.w H' h') (hg : AllBare g') :
    Inv X pins σ H' { s with heap := h', gens := g', drawn := d', toks := t' } := by
  have neL : ∀ b o, X.s₀.heap.get? b = some o → b ≠ X.env.locals := fun b o e => Nat.ne_of_lt (Nat.lt_of_lt_of_le (Heap.lt_size e) I.ok.above)
  have neC : ∀ b o, X.s₀.heap.get? b = some o → b ∉ X.ex → b ∉ ch := fun b o e hx hb => by
    rcases (hch b hb).1 with z | z
    · exact hx z
    · exact absurd (Nat.lt_of_lt_of_le (Heap.lt_size e) z) (Nat.lt_irrefl _)
  have cellK : ∀ x c, X.env.cells.lookup x = some c → ∀ v, s.heap.IsCell c v → h'.IsCell c v := fun x c e v ⟨o, ho, hd⟩ => by
    have nch : c ∉ ch := fun z => (hch c z).2.2.1 x c e rfl
    by_cases hc : c ∈ X.fs
    · obtain ⟨sl, q⟩ := slot c o (I.cne x c e) hc nch ho (I.freeC x c e)
      exact ⟨_, q, hd⟩
    · exact ⟨o, keep c o (I.cne x c e) hc nch ho (I.freeC x c e), hd⟩
  refine ⟨I.ok, I.os, hg, ⟨fun b o e n hb hx => ?_, fun b o e n hb hx => ?_, fun b o e n hx => ?_, fun b o e hx => ?_, fun b xs e => tups b xs (I.base.tups b xs e), fun b o xs e => frzs b o xs (I.base.frzs b o xs e), fun b ps e => ?_⟩, ?_, fun x c e => ?_, ?_, fun x c e => ?_, fun p hp => ?_, hok, I.len⟩
  · exact keep b o (neL b o e) hb (neC b o e hx) (I.base.keep b o e n hb hx) (I.base.free b o e n hx)
  · obtain ⟨sl, e1⟩ := I.base.slot b o e n hb hx
    obtain ⟨sl', e2⟩ := slot b _ (neL b o e) hb (neC b o e hx) e1 (I.base.free b o e n hx)
    exact ⟨sl', e2⟩
  · obtain ⟨o', e1⟩ := I.base.there b o e hx
    exact free b o' (neC b o e hx) e1 (I.base.free b o e n hx)
  · obtain ⟨o', e1⟩ := I.base.there b o e hx
    exact there b o' (neC b o e hx) e1
  · obtain ⟨m1, e1⟩ := I.base.tbls b ps e
    obtain ⟨m2, e2⟩ := tbls b _ e1
    exact ⟨m1 ++ m2, by rw [e2, Array.append_assoc]⟩
  · obtain ⟨m, hn, hl⟩ := I.loc
    refine ⟨m, ns m hn, fun i x v e1 e2 e3 => ?_⟩
    obtain ⟨u, r, l⟩ := hl i x v e1 e2 e3
    refine ⟨u, r, ?_⟩
    rcases l with l | ⟨k, c, e, z⟩
    · exact .inl l
    · exact .inr ⟨k, c, e, cellK x c e _ z⟩
  · obtain ⟨v, z⟩ := I.cell x c e
    exact ⟨v, cellK x c e v z⟩
  · obtain ⟨m, ⟨o, _, _, ho, _⟩, _⟩ := I.loc
    exact free _ o (fun z => (hch _ z).2.1 rfl) ho I.free
  · obtain ⟨v, o, ho, hd⟩ := I.cell x c e
    exact free c o (fun z => (hch c z).2.2.1 x c e rfl) ho (I.freeC x c e)
  · obtain ⟨e, n, ne, nf, d⟩ := I.pin p hp
    have nch : p.1 ∉ ch := fun z => (hch p.1 z).2.2.2 p hp rfl
    exact ⟨keep p.1 p.2 ne nf nch e n, free p.1 p.2 nch e n, ne, nf, d⟩
theorem Inv.un {t' : Nat} (I : Inv X pins σ H s) (u : Un X.fs [] H H' s.heap h') (hok : HOk X.prog X.w H' h') : Inv X pins σ H' { s with heap := h', toks := t' } := by
  obtain ⟨m, ⟨o, es, ep, ho, r⟩, _⟩ := id I.loc
  obtain ⟨sl, hL⟩ := u.any ho I.free (by simp)
  exact I.step (g' := s.gens) (d' := s.drawn) (ch := []) (fun _ z => nomatch z) (fun b o _ hb _ e n => u.keep b o e n hb (by simp)) (fun b o _ hb _ e n => u.slot b o e n hb (by simp)) (fun b o _ e n => u.free b o e n (by simp)) (fun b o _ e => u.there b o e (by simp)) u.tups u.frzs u.tbls (fun m' hm => by
    obtain ⟨o', es', ep', ho', r'⟩ := hm
    rw [ho] at ho'; cases ho'
    exact ⟨_, es', ep', hL, r'⟩) hok I.bare
theorem Inv.call {g' : Array GenState} {t' : Nat} {d' : Drawn} {ch : List Addr} (I : Inv X pins σ H s) (u : Un (frs X.stack) ch H H' s.heap h') (hok : HOk X.prog X.w H' h') (hg : AllBare g')
    (hch : ∀ b ∈ ch, (b ∈ X.ex ∨ X.s₀.heap.objs.size ≤ b) ∧ b ≠ X.env.locals ∧ (∀ x c, X.env.cells.lookup x = some c → c ≠ b) ∧ ∀ p ∈ X.pn ++ pins, p.1 ≠ b) :
    Inv X pins σ H' { s with heap := h', gens := g', drawn := d', toks := t' } := by
  obtain ⟨m, ⟨o, es, ep, ho, r⟩, _⟩ := id I.loc
  obtain ⟨sl, hL⟩ := u.any ho I.free fun z => (hch _ z).2.1 rfl
  exact I.step (ch := ch) hch (fun b o hL hb hc e n => u.keep b o e n (fun z => (List.mem_cons.mp (I.stkSub b z)).elim hL hb) hc) (fun b o _ _ hc e n => u.any e n hc) (fun b o hc e n => u.free b o e n hc) (fun b o hc e => u.there b o e hc) u.tups u.frzs u.tbls (fun m' hm => by
    obtain ⟨o', es', ep', ho', r'⟩ := hm
    rw [ho] at ho'; cases ho'
    exact ⟨_, es', ep', hL, r'⟩) hok hg
theorem Inv.turned {t' : Nat} {it : Addr} (I : Inv X pins σ H s) (k : ∀ b o, b ≠ it → s.heap.get? b = some o → h'.get? b = some o) (hn : H it = none) (hL : it ≠ X.env.locals)
    (h1 : it ∈ X.ex ∨ X.s₀.heap.objs.size ≤ it) (h2 : ∀ x c, X.env.cells.lookup x = some c → c ≠ it) (h3 : ∀ p ∈ X.pn ++ pins, p.1 ≠ it) : Inv X pins σ H { s with heap := h', toks := t' } := by
  have nit : ∀ b u, H b = some u → b ≠ it := fun b u e z => by rw [z, hn] at e; cases e
  refine I.step (g' := s.gens) (d' := s.drawn) (ch := [it]) (fun b hb => ?_) (fun b o _ _ hc e _ => k b o (fun z => hc (by simp [z])) e) (fun b o _ _ hc e _ => ⟨o.slots, k b o (fun z => hc (by simp [z])) e⟩) (fun _ _ _ _ n => n)
    (fun b o hc e => ⟨o, k b o (fun z => hc (by simp [z])) e⟩) (fun _ _ e => e) (fun _ _ _ e => e) (fun b ps e => ⟨#[], by rw [e]; simp⟩) (fun m hm => ?_) (fun b u e => ?_) I.bare
  · have e : b = it := by simpa using hb
    subst e
    exact ⟨h1, hL, h2, h3⟩
  · obtain ⟨o, es, ep, ho, r⟩ := hm
    exact ⟨o, es, ep, k _ o (Ne.symm hL) ho, r⟩
  · refine (I.hok b u e).stay (fun c v hc q => k c v ?_ q) (fun _ q => q) fun _ _ q => q
    rcases hc with z | z
    · rw [z]; exact nit b u e
    · exact nit c _ z
theorem Inv.tok (I : Inv X pins σ H s) (t : Nat) : Inv X pins σ H { s with toks := t } := I.un (h' := s.heap) (t' := t) Un.refl I.hok
theorem Inv.kept {t' : Nat} (I : Inv X pins σ H s) (k : ∀ b u, s.heap.get? b = some u → h'.get? b = some u) : Inv X pins σ H { s with heap := h', toks := t' } := I.un (Un.kept k) (I.hok.kept k)
theorem Inv.laid {a : Addr} {o : HO} {t' : Nat} (I : Inv X pins σ H s) (k : ∀ b u, s.heap.get? b = some u → h'.get? b = some u) (hp : s.heap.objs.size ≤ a) (new : ObjOk X.prog X.w (upd H a o) h' a o) :
    Inv X pins σ (upd H a o) { s with heap := h', toks := t' } := I.un (Un.laid k hp (I.hok.fresh hp)) (I.hok.laid k hp new)
theorem Inv.write {x e : Addr} {o : HO} {t' : Nat} (I : Inv X pins σ H s) (mu : Mut (H x)) (he : e = x ∨ H e = some (.own x)) (k : ∀ b u, b ≠ e → s.heap.get? b = some u → h'.get? b = some u) (heo : ∃ u, h'.get? e = some u)
    (new : ObjOk X.prog X.w (upd H x o) h' x o) : Inv X pins σ (upd H x o) { s with heap := h', toks := t' } := I.un (Un.write mu he k heo) (I.hok.write mu he k heo new)
theorem Inv.pins_of {pins' : List (Addr × Obj)} (I : Inv X pins σ H s) (h : ∀ p ∈ pins', s.heap.get? p.1 = some p.2 ∧ H p.1 = none ∧ p.1 ≠ X.env.locals ∧ p.1 ∉ X.fs ∧ ∀ v, p.2.data ≠ .cell v) : Inv X pins' σ H s :=
  ⟨I.ok, I.os, I.bare, I.base, I.loc, I.cell, I.free, I.freeC, fun p hp => (List.mem_append.mp hp).elim (fun z => I.pin p (List.mem_append_left _ z)) (h p), I.hok, I.len⟩
theorem nodup_ix {N : List Str} (hN : N.Nodup) {i j : Nat} {x : Str} (a : N[i]? = some x) (b : N[j]? = some x) : i = j := by
  obtain ⟨h1, e1⟩ := List.getElem?_eq_some_iff.mp a
  obtain ⟨h2, e2⟩ := List.getElem?_eq_some_iff.mp b
  exact (List.getElem_inj hN).mp (e1.trans e2.symm)
theorem store_ok2 {M : Model} {A : Around} {E : Value → Shared → Prop} {i : Nat} {x : Str} {v : V} {u : Value} {Q : Unit → Shared → Prop} (I : Inv X pins σ H s) (hN : X.N.Nodup) (hi : X.N[i]? = some x) (hx : Loc X.env.scope x) (r : RelV v u)
    (h : ∀ s', Inv X pins (σ.set i (some v)) H s' → (∃ a, Heap.SameBut a s.heap s'.heap ∧ (a = X.env.locals ∨ X.env.cells.lookup x = some a)) → Q () s') (hf : X.fn x = true ∨ X.env.scope.names.lookup x = some .local := by first | exact .inl rfl | exact .inr rfl | assumption) : wpAny M A (storeName X.env x u) Q E s := by
  obtain ⟨m, hn, hl⟩ := id I.loc
  have hcls : (X.env.scope.kind == .class || (X.env.scope.kind == .module && X.env.locals != X.env.globals)) = false := by rw [I.ok.kind]; rfl
  have hiσ : i < σ.length := by rw [I.len]; exact (List.getElem?_eq_some_iff.mp hi).1
  have cne := I.cne
  have tracked : ∀ {a : Addr} {h' : Heap}, (∃ o, s.heap.get? a = some o ∧ H a = none) → Heap.SameBut a s.heap h' → HOk X.prog X.w H h' := fun {a h'} ha hs b ob e => by
    obtain ⟨_, _, hfree⟩ := ha
    refine (I.hok b ob e).stay (fun c w' hc q => (hs.2 c ?_).trans q) (fun _ q => q) fun _ _ q => q
    rintro rfl
    rcases hc with rfl | hc
    · rw [hfree] at e; cases e
    · rw [hfree] at hc; cases hc
  rcases hx with hk | hk
  · refine wpAny_storeName_local hk hn (fun h' hn' hs => ?_) hcls
    obtain ⟨oL, _, _, hoL, _⟩ := id hn
    refine h _ ⟨I.ok, I.os, I.bare, ⟨fun b o e n hb hx => ?_, fun b o e n hb hx => ?_, I.base.free, fun b o e hx => ?_, I.base.tups, I.base.frzs, I.base.tbls⟩, ⟨_, hn', fun j y v' e1 e2 e3 => ?_⟩, fun y c e => ?_, I.free, I.freeC, fun p hp => ?_, tracked ⟨oL, hoL, I.free⟩ hs, by simpa using I.len⟩ ⟨_, hs, .inl rfl⟩
    · exact (hs.2 b (Nat.ne_of_lt (Nat.lt_of_lt_of_le (Heap.lt_size e) I.ok.above))).trans (I.base.keep b o e n hb hx)
    · obtain ⟨sl, e1⟩ := I.base.slot b o e n hb hx
      exact ⟨sl, (hs.2 b (Nat.ne_of_lt (Nat.lt_of_lt_of_le (Heap.lt_size e) I.ok.above))).trans e1⟩
    · obtain ⟨o', e1⟩ := I.base.there b o e hx
      exact ⟨o', (hs.2 b (Nat.ne_of_lt (Nat.lt_of_lt_of_le (Heap.lt_size e) I.ok.above))).trans e1⟩
    · by_cases hj : j = i
      · subst hj
        rw [hi] at e1; cases e1
        rw [List.getElem?_set_self hiσ] at e2
        cases e2
        exact ⟨u, r, .inl ⟨hk, by simp⟩⟩
      · rw [List.getElem?_set_ne (Ne.symm hj)] at e2
        obtain ⟨u', r', q⟩ := hl j y v' e1 e2 e3
        refine ⟨u', r', ?_⟩
        rcases q with ⟨k, e⟩ | ⟨k, c, e, z⟩
        · refine .inl ⟨k, ?_⟩
          have : y ≠ x := fun e => hj (nodup_ix hN e1 (e ▸ hi))
          simp [this, e]
        · exact .inr ⟨k, c, e, z.sameBut hs (cne y c e)⟩
    · obtain ⟨w', z⟩ := I.cell y c e
      exact ⟨w', z.sameBut hs (cne y c e)⟩
    · obtain ⟨e, n, ne, nf, d⟩ := I.pin p hp
      exact ⟨(hs.2 p.1 ne).trans e, n, ne, nf, d⟩
  · have hfn : X.fn x = true := by
      rcases hf with z | z
      · exact z
      · rw [z] at hk; cases hk
    obtain ⟨c, hc⟩ := I.ok.has x (.inl hk)
    obtain ⟨w', z⟩ := I.cell x c hc
    refine wpAny_storeName_cell I.ok.kind hk hc z (fun h' hc' hs => ?_)
    obtain ⟨oc, hoc, hocd⟩ := id z
    refine h { s with heap := h' } ⟨I.ok, I.os, I.bare, ⟨fun b o e n hb hx => ?_, fun b o e n hb hx => ?_, I.base.free, fun b o e hx => ?_, I.base.tups, I.base.frzs, I.base.tbls⟩, ⟨m, hn.sameBut hs (Ne.symm (cne x c hc)), fun j y v' e1 e2 e3 => ?_⟩, fun y c' e => ?_, I.free, I.freeC, fun p hp => ?_, tracked ⟨oc, hoc, I.freeC x c hc⟩ hs, by simpa using I.len⟩ ⟨c, hs, .inr hc⟩
    · exact (hs.2 b (Nat.ne_of_lt (Nat.lt_of_lt_of_le (Heap.lt_size e) (I.ok.cab x c hfn hc)))).trans (I.base.keep b o e n hb hx)
    · obtain ⟨sl, e1⟩ := I.base.slot b o e n hb hx
      exact ⟨sl, (hs.2 b (Nat.ne_of_lt (Nat.lt_of_lt_of_le (Heap.lt_size e) (I.ok.cab x c hfn hc)))).trans e1⟩
    · obtain ⟨o', e1⟩ := I.base.there b o e hx
      exact ⟨o', (hs.2 b (Nat.ne_of_lt (Nat.lt_of_lt_of_le (Heap.lt_size e) (I.ok.cab x c hfn hc)))).trans e1⟩
    · by_cases hj : j = i
      · subst hj
        rw [hi] at e1; cases e1
        rw [List.getElem?_set_self hiσ] at e2
        cases e2
        exact ⟨u, r, .inr ⟨.inl hk, c, hc, hc'⟩⟩
      · rw [List.getElem?_set_ne (Ne.symm hj)] at e2
        obtain ⟨u', r', q⟩ := hl j y v' e1 e2 e3
        refine ⟨u', r', ?_⟩
        rcases q with q | ⟨k, c', e, z'⟩
        · exact .inl q
        · refine .inr ⟨k, c', e, z'.sameBut hs ?_⟩
          rintro rfl
          exact hj (nodup_ix hN e1 (I.ok.inj _ _ _ e hc ▸ hi))
    · by_cases hcc : c' = c
      · subst hcc; exact ⟨_, hc'⟩
      · obtain ⟨w2, z2⟩ := I.cell y c' e
        exact ⟨w2, z2.sameBut hs hcc⟩
    · obtain ⟨e, n, ne, nf, d⟩ := I.pin p hp
      refine ⟨(hs.2 p.1 ?_).trans e, n, ne, nf, d⟩
      intro q
      rw [q, hoc] at e
      have q' : oc = p.2 := Option.some.inj e
      exact d w' (by rw [← q']; exact hocd)
theorem store_ok {M : Model} {A : Around} {E : Value → Shared → Prop} {i : Nat} {x : Str} {v : V} {u : Value} {Q : Unit → Shared → Prop} (I : Inv X pins σ H s) (hN : X.N.Nodup) (hi : X.N[i]? = some x) (hx : Loc X.env.scope x) (r : RelV v u)
    (h : ∀ s', Inv X pins (σ.set i (some v)) H s' → Q () s') (hf : X.fn x = true ∨ X.env.scope.names.lookup x = some .local := by first | exact .inl rfl | exact .inr rfl | assumption) : wpAny M A (storeName X.env x u) Q E s :=
  store_ok2 I hN hi hx r (fun s' I' _ => h s' I') hf
theorem Inv.call' {s' : Shared} {ch : List Addr} (I : Inv X pins σ H s) (ho : s'.os = s.os) (u : Un (frs X.stack) ch H H' s.heap s'.heap) (hok : HOk X.prog X.w H' s'.heap) (hg : AllBare s'.gens)
    (hch : ∀ b ∈ ch, (b ∈ X.ex ∨ X.s₀.heap.objs.size ≤ b) ∧ b ≠ X.env.locals ∧ (∀ x c, X.env.cells.lookup x = some c → c ≠ b) ∧ ∀ p ∈ X.pn ++ pins, p.1 ≠ b) : Inv X pins σ H' s' := by
  obtain ⟨h', g', d', t', o'⟩ := s'
  have e : o' = s.os := ho
  subst e
  exact I.call (g' := g') (t' := t') (d' := d') u hok hg hch
end
abbrev XK := Value → Option Addr → Hp → Prop
abbrev St := List (Option V)
abbrev VK := V → Hp → Prop
abbrev TE := St → Hp → VK → Prop
abbrev TT := St → Hp → (Bool → Hp → Prop) → Prop
abbrev TA := St → Hp → (List V → Hp → Prop) → Prop
structure Ends where
  nx : St → Hp → Prop
  rt : VK
  bk : St → Hp → Prop := fun _ _ => False
  ct : St → Hp → Prop := fun _ _ => False
abbrev TS := Ends → St → Hp → Prop
def EP (X : Cx) (pins : List (Addr × Obj)) (σ : St) (Q : VK) (u : Value) (s' : Shared) : Prop := ∃ v H', Inv X pins σ H' s' ∧ RelV v u ∧ Q v H'
def TP (X : Cx) (pins : List (Addr × Obj)) (σ : St) (Q : Bool → Hp → Prop) (b : Bool) (s' : Shared) : Prop := ∃ H', Inv X pins σ H' s' ∧ Q b H'
def AP (X : Cx) (pins : List (Addr × Obj)) (σ : St) (Q : List V → Hp → Prop) (us : List Value) (s' : Shared) : Prop := ∃ vs H', Inv X pins σ H' s' ∧ Vals vs us ∧ Q vs H'
def SP (X : Cx) (pins : List (Addr × Obj)) (D : Ends) (f : Flow) (s' : Shared) : Prop :=
  match f with
  | .next => ∃ σ' H', Inv X pins σ' H' s' ∧ D.nx σ' H'
  | .brk => ∃ σ' H', Inv X pins σ' H' s' ∧ D.bk σ' H'
  | .cont => ∃ σ' H', Inv X pins σ' H' s' ∧ D.ct σ' H'
  | .ret u => ∃ v σ' H', Inv X pins σ' H' s' ∧ RelV v u ∧ D.rt v H'
def PE (X : Cx) (e : Expr) (t : TE) : Prop :=
  ∀ (pins : List (Addr × Obj)) (s : Shared) (σ : St) (H : Hp) (Q : VK), Inv X pins σ H s → t σ H Q → wpAny (model X.prog X.w) X.A (eval e X.env) (EP X pins σ Q) X.xe s
def PT (X : Cx) (e : Expr) (t : TT) : Prop :=
  ∀ (pins : List (Addr × Obj)) (s : Shared) (σ : St) (H : Hp) (Q : Bool → Hp → Prop), Inv X pins σ H s → t σ H Q → wpAny (model X.prog X.w) X.A (isTrue e X.env (eval e X.env)) (TP X pins σ Q) X.xe s
def PW (X : Cx) (e : Expr) (t : TT) : Prop :=
  ∀ (whole : Sem Value) (pins : List (Addr × Obj)) (s : Shared) (σ : St) (H : Hp) (Q : Bool → Hp → Prop), Inv X pins σ H s → t σ H Q → wpAny (model X.prog X.w) X.A (isTrue e X.env whole) (TP X pins σ Q) X.xe s
theorem PW.pt {X : Cx} {e : Expr} {t : TT} (h : PW X e t) : PT X e t := h _
def PA (X : Cx) (es : List Expr) (t : TA) : Prop :=
  ∀ (pos : Pos) (pins : List (Addr × Obj)) (s : Shared) (σ : St) (H : Hp) (Q : List V → Hp → Prop), Inv X pins σ H s → t σ H Q → wpAny (model X.prog X.w) X.A (spliced (backTo pos (starEach es X.env))) (AP X pins σ Q) X.xe s
def PS (X : Cx) (st : Stmt) (t : TS) : Prop :=
  ∀ (pins : List (Addr × Obj)) (s : Shared) (σ : St) (H : Hp) (D : Ends), Inv X pins σ H s → t D σ H → wpAny (model X.prog X.w) X.A (exec st X.env) (SP X pins D) X.xe s
def PSs (X : Cx) (st : List Stmt) (t : TS) : Prop :=
  ∀ (pins : List (Addr × Obj)) (s : Shared) (σ : St) (H : Hp) (D : Ends), Inv X pins σ H s → t D σ H → wpAny (model X.prog X.w) X.A (execs st X.env) (SP X pins D) X.xe s
theorem thn {α : Type} {t : Sem α} {Q Q' : α → Shared → Prop} {M : Model} {A : Around} {E : Value → Shared → Prop} {s : Shared} (h : wpAny M A t Q E s) (hQ : ∀ a s, Q a s → Q' a s) : wpAny M A t Q' E s := wpAny_mono h hQ fun _ _ x => x
end L2
namespace L2
open PySem PySem.Spec PyProof.Rows
section
variable {X : Cx}
def tVar (i : Nat) : TE := fun σ H Q => ∃ v, σ[i]? = some (some v) ∧ Q v H
def tC (v : V) : TE := fun _ H Q => Q v H
theorem pe_var {i : Nat} {x : Str} {pos : Pos} (hN : X.N[i]? = some x) (hv : Vis X.env.scope x) (hd : (x == ("__debug__" : Str)) = false := by decide) (hcd : (x == ("__classdict__" : Str)) = false := by decide) : PE X (.Name x pos) (tVar i) := by
  intro pins s σ H Q I h
  obtain ⟨v, e, h⟩ := h
  obtain ⟨m, hn, hl⟩ := I.loc
  obtain ⟨u, r, l⟩ := hl i x v hN e hv
  have fin : EP X pins σ Q u s := ⟨v, H, I, r, h⟩
  rcases l with ⟨hk, hm⟩ | ⟨hk, c, hc, hcell⟩
  · exact wpAny_Name (wpAny_loadName_local I.ok.kind hk hn hm fin) hd
  · rcases hk with hk | hk
    · exact wpAny_Name (wpAny_loadName_cell I.ok.kind hk hc hcell fin) hd
    · exact wpAny_Name (wpAny_loadName_free I.ok.kind hk hc hcell fin hcd) hd
theorem pe_int {i j pos} : PE X (.Constant (.int i) j pos) (tC (.int i)) := fun _ _ _ H _ I h => wpAny_Constant_int ⟨.int i, H, I.tok _, ⟨_, rfl⟩, h⟩
theorem pe_bl {b j pos} : PE X (.Constant (.bool b) j pos) (tC (.bl b)) := fun _ _ _ H _ I h => Constant_bool ⟨.bl b, H, I, rfl, h⟩
theorem pe_non {j pos} : PE X (.Constant .none j pos) (tC .non) := fun _ _ _ H _ I h => Constant_none ⟨.non, H, I, rfl, h⟩
theorem pe_str {x j pos} : PE X (.Constant (.str x) j pos) (tC (.str x)) := fun _ _ _ H _ I h => Calls.Constant_str ⟨.str x, H, I.tok _, ⟨_, rfl⟩, h⟩
def Gl (X : Cx) (x : Str) : Prop := X.env.kindOf x = some .globalImplicit
theorem ld_glob {E : Value → Shared → Prop} {pins : List (Addr × Obj)} {s : Shared} {σ : St} {H : Hp} {x : Str} {u : Value} {pos : Pos} {Q : Value → Shared → Prop} (I : Inv X pins σ H s) (hg : Gl X x) (hm : X.mg x = some u) (h : Q u s)
    (hd : (x == ("__debug__" : Str)) = false := by decide) : wpAny (model X.prog X.w) X.A (eval (.Name x pos) X.env) Q E s :=
  Calls.Name_function_global I.ok.kind hg (Calls.loadGlobal_global (by rw [I.ok.glob]; exact I.mod.glob.keeps I.bk) hm h) hd
theorem ld_blt {E : Value → Shared → Prop} {pins : List (Addr × Obj)} {s : Shared} {σ : St} {H : Hp} {x : Str} {u : Value} {pos : Pos} {Q : Value → Shared → Prop} (I : Inv X pins σ H s) (hg : Gl X x) (hm : X.mg x = none) (hv : bootBuiltins x = some u) (h : Q u s)
    (hn : x ≠ "__name__" := by decide) (hd : (x == ("__debug__" : Str)) = false := by decide) : wpAny (model X.prog X.w) X.A (eval (.Name x pos) X.env) Q E s := by
  obtain ⟨mb, h1, h2⟩ := I.mod.blt
  exact Calls.Name_function_global I.ok.kind hg (Calls.loadGlobal_builtin (by rw [I.ok.glob]; exact I.mod.glob.keeps I.bk) hm (by rw [I.ok.blt]; exact h1.keeps I.bk) ((h2 x hn).trans hv) h) hd
theorem pe_glob {x : Str} {v : V} {u : Value} {pos : Pos} (hg : Gl X x) (hm : X.mg x = some u) (r : RelV v u) (hd : (x == ("__debug__" : Str)) = false := by decide) : PE X (.Name x pos) (tC v) :=
  fun _ _ _ H _ I h => ld_glob I hg hm ⟨v, H, I, r, h⟩ hd
theorem pe_bltn {x : Str} {v : V} {u : Value} {pos : Pos} (hg : Gl X x) (hm : X.mg x = none) (hv : bootBuiltins x = some u) (r : RelV v u) (hn : x ≠ "__name__" := by decide) (hd : (x == ("__debug__" : Str)) = false := by decide) : PE X (.Name x pos) (tC v) :=
  fun _ _ _ H _ I h => ld_blt I hg hm hv ⟨v, H, I, r, h⟩ hn hd
variable {a b : Expr} {ta tb : TE} {pos : Pos}
def PC (X : Cx) (op : CmpOp) (a b : Expr) (t : TE) : Prop :=
  ∀ (pins : List (Addr × Obj)) (s : Shared) (σ : St) (H : Hp) (Q : VK), Inv X pins σ H s → t σ H Q →
    wpAny (model X.prog X.w) X.A (eval a X.env) (fun v s₁ => wpAny (model X.prog X.w) X.A (eval b X.env) (fun u s₂ => wpAny (model X.prog X.w) X.A (compareOp op v u) (EP X pins σ Q) X.xe s₂) X.xe s₁) X.xe s
theorem nobehind (b : Expr) {op : CmpOp} (h : op ≠ .In) (h2 : op ≠ .NotIn) : behindInMarks op b = false := by
  have e1 : (op == CmpOp.In) = false := by cases op <;> first | rfl | exact absurd rfl h
  have e2 : (op == CmpOp.NotIn) = false := by cases op <;> first | rfl | exact absurd rfl h2
  cases b <;> simp [behindInMarks, e1, e2]
def tNotN (ta : TE) : TE := fun σ H Q => ta σ H fun x H1 => Q (.bl (!decide (x = .non))) H1
theorem RelV.none_iff {x : V} {v : Value} (r : RelV x v) : (v == Value.none) = decide (x = .non) := by
  cases x with
  | non => cases r; rfl
  | bl _ => cases r; rfl
  | int _ => obtain ⟨t, rfl⟩ := r; rfl
  | str _ => obtain ⟨t, rfl⟩ := r; rfl
  | byt _ => obtain ⟨t, rfl⟩ := r; rfl
  | flt _ => obtain ⟨t, rfl⟩ := r; rfl
  | ref _ => cases r; rfl
  | ty _ => cases r; rfl
theorem pc_notN {j pos'} (ha : PE X a ta) : PC X .IsNot a (.Constant .none j pos') (tNotN ta) := by
  intro pins s σ H Q I h
  refine thn (ha pins s σ H _ I h) fun v s1 ⟨x, H1, I1, r1, q1⟩ => ?_
  exact Constant_none (isnot_none_gen ⟨.bl _, H1, I1, by rw [r1.none_iff]; rfl, q1⟩)
def tB (t : TE) : TT := fun σ H Q => t σ H fun x H1 => ∃ c, x = .bl c ∧ Q c H1
theorem pt_cmp {op : CmpOp} {t : TE} (h : PC X op a b t) (h1 : behindInMarks op b = false := by first | exact nobehind _ (by decide) (by decide) | rfl) : PT X (.Compare a [op] [b] pos) (tB t) := by
  intro pins s σ H Q I hw
  refine wpAny_isTrue_Compare1 (thn (h pins s σ H _ I hw) fun v s1 h1 => thn h1 fun u s2 h2 => thn h2 fun c s3 ⟨x, H1, I1, r1, q1⟩ => ?_) h1
  obtain ⟨d, rfl, q⟩ := q1
  cases r1
  exact wpAny_truthy_bool ⟨H1, I1, q⟩
variable {tA tB' : TT} {rest : List Expr}
def tAnd (t u : TT) : TT := fun σ H Q => t σ H fun c H1 => if c = true then u σ H1 Q else Q false H1
def tOr (t u : TT) : TT := fun σ H Q => t σ H fun c H1 => if c = true then Q true H1 else u σ H1 Q
def tNot (t : TT) : TT := fun σ H Q => t σ H fun c H1 => Q (!c) H1
theorem pw_and1 (ha : PT X a tA) : PW X (.BoolOp .And [a] pos) tA := by
  intro wh pins s σ H Q I h
  refine isTrue_and (thn (ha pins s σ H Q I h) fun c s1 e => ?_)
  cases c with
  | true => exact isTrue_and_nil e
  | false => exact e
theorem pw_or1 (ha : PT X a tA) : PW X (.BoolOp .Or [a] pos) tA := by
  intro wh pins s σ H Q I h
  refine isTrue_or (thn (ha pins s σ H Q I h) fun c s1 e => ?_)
  cases c with
  | false => exact isTrue_or_nil e
  | true => exact e
theorem pw_and (ha : PT X a tA) (hb : PW X (.BoolOp .And (b :: rest) pos) tB') : PW X (.BoolOp .And (a :: b :: rest) pos) (tAnd tA tB') := by
  intro wh pins s σ H Q I h
  refine isTrue_and (thn (ha pins s σ H _ I h) fun c s1 ⟨H1, I1, q1⟩ => ?_)
  cases c with
  | true => exact hb wh pins s1 σ H1 Q I1 q1
  | false => exact ⟨H1, I1, q1⟩
theorem pw_or (ha : PT X a tA) (hb : PW X (.BoolOp .Or (b :: rest) pos) tB') : PW X (.BoolOp .Or (a :: b :: rest) pos) (tOr tA tB') := by
  intro wh pins s σ H Q I h
  refine isTrue_or (thn (ha pins s σ H _ I h) fun c s1 ⟨H1, I1, q1⟩ => ?_)
  cases c with
  | true => exact ⟨H1, I1, q1⟩
  | false => exact hb wh pins s1 σ H1 Q I1 q1
theorem pt_not (ha : PT X a tA) : PT X (.UnaryOp .Not a pos) (tNot tA) := by
  intro pins s σ H Q I h
  exact isTrue_not (ha pins s σ H (fun c H1 => Q (!c) H1) I h)
def tAndV (ta tb : TE) : TE := fun σ H Q => ta σ H fun x H1 => ∃ c, x = .bl c ∧ if c = true then tb σ H1 Q else Q (.bl false) H1
def tNotV (ta : TE) : TE := fun σ H Q => ta σ H fun x H1 => ∃ c, x = .bl c ∧ Q (.bl (!c)) H1
theorem pe_one {op} {t : TE} (h : PE X a t) : PE X (.BoolOp op [a] pos) t := fun pins s σ H Q I hw => BoolOp_one (h pins s σ H Q I hw)
theorem pe_and (ha : PE X a ta) (hb : PE X (.BoolOp .And (b :: rest) pos) tb) : PE X (.BoolOp .And (a :: b :: rest) pos) (tAndV ta tb) := by
  intro pins s σ H Q I h
  refine BoolOp_and (thn (ha pins s σ H _ I h) fun v s1 ⟨x, H1, I1, r1, q1⟩ => ?_)
  obtain ⟨c, rfl, q1⟩ := q1
  cases r1
  refine wpAny_truthy_bool ?_
  cases c with
  | true => exact hb pins s1 σ H1 Q I1 q1
  | false => exact ⟨.bl false, H1, I1, rfl, q1⟩
theorem pe_not (ha : PE X a ta) : PE X (.UnaryOp .Not a pos) (tNotV ta) := by
  intro pins s σ H Q I h
  refine UnaryOp_ (thn (ha pins s σ H _ I h) fun v s1 ⟨x, H1, I1, r1, q1⟩ => ?_)
  obtain ⟨c, rfl, q1⟩ := q1
  cases r1
  exact not_of (wpAny_truthy_bool ⟨.bl (!c), H1, I1, rfl, q1⟩)
end
end L2
namespace L2
open PySem PySem.Spec PyProof.Rows
def SqL (K : PySem.W.Frag) (H : Hp) (a : Addr) (xs : List V) : Prop :=
  Rd H a (.lst xs) ∨
    ∃ (o : Obj) (its : Array Value) (n : Nat), K.lookup a = some o ∧ o.cls = .type "list" ∧ o.dict = none ∧ o.data = .seq its n ∧ its.size ≤ sizeLine ∧ Vals xs its.toList
def SqT (K : PySem.W.Frag) (H : Hp) (a : Addr) (xs : List V) : Prop :=
  Rd H a (.tup xs) ∨
    ∃ (o : Obj) (its : Array Value) (n : Nat), K.lookup a = some o ∧ o.cls = .type "tuple" ∧ o.data = .seq its n ∧ its.size ≤ sizeLine ∧ Vals xs its.toList
def absV : Value → Option V
  | .none => some .non
  | .bool b => some (.bl b)
  | .int i _ => some (.int i)
  | .str x _ => some (.str x)
  | .bytes b _ => some (.byt b)
  | .float b _ => some (.flt b)
  | .ref a => some (.ref a)
  | .type n => some (.ty n)
  | _ => none
theorem RelV.abs {x : V} {u : Value} (r : RelV x u) : absV u = some x := by
  cases x with
  | non => cases r; rfl
  | bl _ => cases r; rfl
  | int _ => obtain ⟨t, rfl⟩ := r; rfl
  | str _ => obtain ⟨t, rfl⟩ := r; rfl
  | byt _ => obtain ⟨t, rfl⟩ := r; rfl
  | flt _ => obtain ⟨t, rfl⟩ := r; rfl
  | ref _ => cases r; rfl
  | ty _ => cases r; rfl
theorem RelV.inj {x y : V} {u : Value} (r : RelV x u) (q : RelV y u) : x = y := Option.some.inj (r.abs.symm.trans q.abs)
theorem Vals.inj : ∀ {xs ys : List V} {us : List Value}, Vals xs us → Vals ys us → xs = ys
  | _, _, _, .nil, .nil => rfl
  | _, _, _, .cons r t, .cons r' t' => by rw [r.inj r', Vals.inj t t']
section
variable {X : Cx} {pins : List (Addr × Obj)} {σ : St} {H : Hp} {s : Shared} {a : Addr} {xs ys : List V}
theorem Inv.list (I : Inv X pins σ H s) (h : SqL X.K H a xs) : ∃ its : List Value, Vals xs its ∧ PlainL s.heap a its.toArray ∧ xs.length ≤ sizeLine := by
  rcases h with h | ⟨o, its, n, hk, hc, hd, hs, hz, r⟩
  · obtain ⟨z, its, n, r, e⟩ := h.ok I.hok
    exact ⟨its, r, ⟨_, n, e, rfl, rfl, rfl⟩, z⟩
  · refine ⟨its.toList, r, ⟨o, n, I.kIn a o hk, hc, hd, by simpa using hs⟩, ?_⟩
    have e := r.length
    simp only [Array.length_toList] at e
    omega
theorem Inv.tuple (I : Inv X pins σ H s) (h : SqT X.K H a xs) : ∃ its : List Value, Vals xs its ∧ IsTup s.heap a its.toArray ∧ xs.length ≤ sizeLine := by
  rcases h with h | ⟨o, its, n, hk, hc, hs, hz, r⟩
  · obtain ⟨z, its, r, p⟩ := h.ok I.hok
    exact ⟨its, r, p, z⟩
  · refine ⟨its.toList, r, ⟨o, I.kIn a o hk, hc, n, by simpa using hs⟩, ?_⟩
    have e := r.length
    simp only [Array.length_toList] at e
    omega
theorem Inv.list_inj (I : Inv X pins σ H s) (h : SqL X.K H a xs) (h' : SqL X.K H a ys) : xs = ys := by
  obtain ⟨its, r, ⟨o, n, e, _, _, d⟩, _⟩ := I.list h
  obtain ⟨its', r', ⟨o', n', e', _, _, d'⟩, _⟩ := I.list h'
  rw [e] at e'; cases e'
  rw [d] at d'
  injection d' with d1 _
  have : its = its' := by simpa using congrArg Array.toList d1
  subst this
  exact r.inj r'
theorem Inv.tuple_inj (I : Inv X pins σ H s) (h : SqT X.K H a xs) (h' : SqT X.K H a ys) : xs = ys := by
  obtain ⟨its, r, ⟨o, e, _, n, d⟩, _⟩ := I.tuple h
  obtain ⟨its', r', ⟨o', e', _, n', d'⟩, _⟩ := I.tuple h'
  rw [e] at e'; cases e'
  rw [d] at d'
  injection d' with d1 _
  have : its = its' := by simpa using congrArg Array.toList d1
  subst this
  exact r.inj r'
end
abbrev Cx.wish (X : Cx) (E : Value → Shared → Prop) : Cx := { X with xe := E }
abbrev Cx.nox (X : Cx) : Cx := X.wish fun _ _ => False
theorem Cx.Ok.wish {X : Cx} (ok : X.Ok) (E : Value → Shared → Prop) : (X.wish E).Ok :=
  ⟨ok.mod, ok.kind, ok.glob, ok.blt, ok.above, ok.inj, ok.has, ok.cab, ok.hd, ok.frames, ok.stk, ok.exf, ok.bs, ok.bsz, ok.noex, ok.exfs, ok.funs, ok.frf⟩
theorem Cx.Ok.unwish {X : Cx} {E : Value → Shared → Prop} (ok : (X.wish E).Ok) : X.Ok :=
  ⟨ok.mod, ok.kind, ok.glob, ok.blt, ok.above, ok.inj, ok.has, ok.cab, ok.hd, ok.frames, ok.stk, ok.exf, ok.bs, ok.bsz, ok.noex, ok.exfs, ok.funs, ok.frf⟩
section
variable {X : Cx} {pins : List (Addr × Obj)} {σ : St} {H : Hp} {s : Shared} {E : Value → Shared → Prop}
theorem Inv.wish (I : Inv X pins σ H s) (E : Value → Shared → Prop) : Inv (X.wish E) pins σ H s := ⟨I.ok.wish E, I.os, I.bare, I.base, I.loc, I.cell, I.free, I.freeC, I.pin, I.hok, I.len⟩
theorem Inv.unwish (I : Inv (X.wish E) pins σ H s) : Inv X pins σ H s := ⟨I.ok.unwish, I.os, I.bare, I.base, I.loc, I.cell, I.free, I.freeC, I.pin, I.hok, I.len⟩
theorem SP.unwish {D : Ends} {f : Flow} {s' : Shared} (h : SP (X.wish E) pins D f s') : SP X pins D f s' := by
  cases f with
  | next => obtain ⟨σ', H', I, q⟩ := h; exact ⟨σ', H', I.unwish, q⟩
  | brk => obtain ⟨σ', H', I, q⟩ := h; exact ⟨σ', H', I.unwish, q⟩
  | cont => obtain ⟨σ', H', I, q⟩ := h; exact ⟨σ', H', I.unwish, q⟩
  | ret u => obtain ⟨v, σ', H', I, r, q⟩ := h; exact ⟨v, σ', H', I.unwish, r, q⟩
theorem PSs.nox {st : List Stmt} {t : TS} (h : PSs X.nox st t) : PSs X st t := fun pins s σ H D I hw =>
  wpAny_mono (h pins s σ H D (I.wish _) hw) (fun _ _ q => q.unwish) fun _ _ z => False.elim z
end
section
variable {X : Cx} {st : Stmt} {rest : List Stmt} {t u : TS} {e : Expr} {te : TE} {pos : Pos}
def tNext : TS := fun D σ H => D.nx σ H
def tSeq (t u : TS) : TS := fun D σ H => t { D with nx := u D } σ H
theorem pss_nil : PSs X [] tNext := fun _ _ σ H _ I h => wpAny_execs_nil ⟨σ, H, I, h⟩
theorem pss_cons (h1 : PS X st t) (h2 : PSs X rest u) : PSs X (st :: rest) (tSeq t u) := by
  intro pins s σ H D I h
  refine wpAny_execs_cons (thn (h1 pins s σ H { D with nx := u D } I h) fun f s1 q => ?_)
  cases f with
  | next =>
    obtain ⟨σ', H', I', q⟩ := q
    exact h2 pins s1 σ' H' D I' q
  | ret v => exact q
  | brk => exact q
  | cont => exact q
theorem pss_one (h1 : PS X st t) : PSs X [st] t := by
  intro pins s σ H D I h
  refine wpAny_execs_cons (thn (h1 pins s σ H D I h) fun f s1 q => ?_)
  cases f with
  | next => exact wpAny_execs_nil q
  | ret v => exact q
  | brk => exact q
  | cont => exact q
theorem Inv.quiet {pins : List (Addr × Obj)} {σ : St} {H : Hp} {s : Shared} (I : Inv X pins σ H s) : interactive X.env = false := by simp [interactive, I.ok.kind]
def tDrop (te : TE) : TS := fun D σ H => te σ H fun _ H1 => D.nx σ H1
theorem ps_expr (he : PE X e te) (hs : swapsWith e none pos.line X.env = pure false := by rfl) : PS X (.Expr e pos) (tDrop te) := by
  intro pins s σ H D I h
  exact wpAny_Expr_any (thn (he pins s σ H _ I h) fun v s1 ⟨x, H1, I1, r1, q1⟩ => ⟨σ, H1, I1, q1⟩) I.quiet hs
def tRet (te : TE) : TS := fun D σ H => te σ H D.rt
theorem ps_ret (he : PE X e te) : PS X (.Return (some e) pos) (tRet te) := by
  intro pins s σ H D I h
  exact wpAny_Return_some (thn (he pins s σ H _ I h) fun v s1 ⟨x, H1, I1, r1, q1⟩ => ⟨x, σ, H1, I1, r1, q1⟩)
def tIfS (c : TT) (t u : TS) : TS := fun D σ H => c σ H fun b H1 => if b = true then t D σ H1 else u D σ H1
theorem ps_if {c : Expr} {a b : List Stmt} {tc : TT} (hc : PT X c tc) (ha : PSs X a t) (hb : PSs X b u) : PS X (.If c a b pos) (tIfS tc t u) := by
  intro pins s σ H D I h
  refine wpAny_If (thn (hc pins s σ H _ I h) fun d s1 ⟨H1, I1, q1⟩ => ?_)
  cases d with
  | true => exact ha pins s1 σ H1 D I1 q1
  | false => exact hb pins s1 σ H1 D I1 q1
def tNever : TS := fun _ _ _ => False
theorem ps_never : PS X st tNever := fun _ _ _ _ _ _ h => h.elim
end
abbrev TG := V → St → Hp → (St → Hp → Prop) → Prop
abbrev TGs := List V → St → Hp → (St → Hp → Prop) → Prop
def PG (X : Cx) (target : Expr) (t : TG) : Prop :=
  ∀ (pins : List (Addr × Obj)) (s : Shared) (σ : St) (H : Hp) (v : V) (u : Value) (Q : St → Hp → Prop), Inv X pins σ H s → RelV v u → t v σ H Q →
    wpAny (model X.prog X.w) X.A (assign target X.env u) (fun _ s' => ∃ σ' H', Inv X pins σ' H' s' ∧ Q σ' H') X.xe s
def PGs (X : Cx) (ts : List Expr) (t : TGs) : Prop :=
  ∀ (pins : List (Addr × Obj)) (s : Shared) (σ : St) (H : Hp) (vs : List V) (us : List Value) (Q : St → Hp → Prop), Inv X pins σ H s → Vals vs us → t vs σ H Q →
    wpAny (model X.prog X.w) X.A (assignInOrder ((assignEach ts X.env).map (·.2)) us) (fun _ s' => ∃ σ' H', Inv X pins σ' H' s' ∧ Q σ' H') X.xe s
abbrev TSet := V → V → V → Hp → (Hp → Prop) → Prop
def PSet (X : Cx) (t : TSet) : Prop :=
  ∀ (pins : List (Addr × Obj)) (s : Shared) (σ : St) (H : Hp) (o i v : V) (ov iv u : Value) (Q : Hp → Prop), Inv X pins σ H s → RelV o ov → RelV i iv → RelV v u → t o i v H Q →
    wpAny (model X.prog X.w) X.A (setItem ov iv u) (fun _ s' => ∃ H', Inv X pins σ H' s' ∧ Q H') X.xe s
section
variable {X : Cx} {pos : Pos}
def gName (i : Nat) : TG := fun v σ H Q => Q (σ.set i (some v)) H
theorem pg_name {i : Nat} {x : Str} (hN : X.N.Nodup) (hi : X.N[i]? = some x) (hx : Loc X.env.scope x) (hf : X.fn x = true ∨ X.env.scope.names.lookup x = some .local := by first | exact .inl rfl | exact .inr rfl | assumption) : PG X (.Name x pos) (gName i) := by
  intro pins s σ H v u Q I r h
  exact wpAny_assign_Name (store_ok I hN hi hx r (fun s' I' => ⟨_, H, I', h⟩) hf)
def gNil : TGs := fun vs σ H Q => vs = [] ∧ Q σ H
def gCons (t : TG) (u : TGs) : TGs := fun vs σ H Q => ∃ v r, vs = v :: r ∧ t v σ H fun σ' H' => u r σ' H' Q
theorem pgs_nil : PGs X [] gNil := by
  intro pins s σ H vs us Q I r h
  obtain ⟨e, h⟩ := h
  subst e
  cases r
  exact assignInOrder_nil ⟨σ, H, I, h⟩
theorem pgs_cons {e : Expr} {es : List Expr} {t : TG} {u : TGs} (h1 : PG X e t) (h2 : PGs X es u)
    (hs : (assignEach (e :: es) X.env).map (·.2) = assign e X.env :: (assignEach es X.env).map (·.2) := by rfl) : PGs X (e :: es) (gCons t u) := by
  intro pins s σ H vs us Q I r h
  obtain ⟨v, vr, e1, h⟩ := h
  subst e1
  cases r with
  | cons r rr =>
    rw [hs]
    refine assignInOrder_cons (thn (h1 pins s σ H _ _ _ I r h) fun _ s1 ⟨σ1, H1, I1, q1⟩ => ?_)
    exact h2 pins s1 σ1 H1 _ _ Q I1 rr q1
def gTup (K : PySem.W.Frag) (n : Nat) (t : TGs) : TG := fun v σ H Q => ∃ a xs, v = .ref a ∧ SqT K H a xs ∧ xs.length = n ∧ t xs σ H Q
theorem pg_tup {es : List Expr} {k : Nat} {t : TGs} {n : Nat} (hc : X.calm = true) (h : PGs X es t)
    (hn : (assignEach es X.env).length = n := by rfl) (hst : (assignEach es X.env).findIdx? (·.1) = none := by rfl) : PG X (.Tuple es k pos) (gTup X.K n t) := by
  intro pins s σ H v u Q I r hw
  obtain ⟨a, xs, e1, hq, hl, hw⟩ := hw
  subst e1
  cases r
  obtain ⟨its, rv, ht, hz⟩ := I.tuple hq
  refine assign_Tuple_tuple (I.ok.hd hc) ht (by simp [hn, ← hl, rv.length]) hst fun h' hx => ?_
  have I1 : Inv X pins σ H { s with heap := h' } := I.kept (t' := s.toks) fun b o e => hx b o (Nat.ne_of_lt (Heap.lt_size e)) e
  exact h pins _ σ H xs _ Q I1 (by simpa using rv) hw
def gSub (to ti : TE) (t : TSet) : TG := fun v σ H Q => to σ H fun o H1 => ti σ H1 fun i H2 => t o i v H2 fun H3 => Q σ H3
theorem pg_sub {o i : Expr} {to ti : TE} {t : TSet} (ho : PE X o to) (hi : PE X i ti) (hs : PSet X t)
    (ha : ∀ v, assign (.Subscript o i pos) X.env v = (do
      let ov ← holding [v] (eval o X.env)
      let iv ← holding [v, ov] (eval i X.env)
      standAt pos
      holding [v, ov, iv] (setItem ov iv v)
      release [v, ov, iv] []) := by intro _; rfl) : PG X (.Subscript o i pos) (gSub to ti t) := by
  intro pins s σ H v u Q I r h
  rw [ha]
  refine wpAny_bind (wpAny_holding (thn (ho pins s σ H _ I h) fun ov s1 ⟨x, H1, I1, r1, q1⟩ => ?_))
  refine wpAny_bind (wpAny_holding (thn (hi pins s1 σ H1 _ I1 q1) fun iv s2 ⟨y, H2, I2, r2, q2⟩ => ?_))
  refine wpAny_bind (wpAny_standAt (wpAny_bind (wpAny_holding (thn (hs pins s2 σ H2 x y v ov iv u _ I2 r1 r2 r q2) fun _ s3 ⟨H3, I3, q3⟩ => ?_))))
  exact wpAny_release ⟨σ, H3, I3, q3⟩
def tAsg (te : TE) (g : TG) : TS := fun D σ H => te σ H fun x H1 => g x σ H1 D.nx
theorem ps_asg {tg e : Expr} {te : TE} {g : TG} (he : PE X e te) (hg : PG X tg g) (hs : swapsWithSole [tg] e pos.line X.env = pure false := by rfl) (hw : swappedStores [tg] e X.env = pure none := by rfl)
    (h1 : (assignEach [tg] X.env).map (·.2) = [assign tg X.env] := by rfl) : PS X (.Assign [tg] e pos) (tAsg te g) := by
  intro pins s σ H D I h
  refine wpAny_Assign_stores (thn (he pins s σ H _ I h) fun v s1 ⟨x, H1, I1, r1, q1⟩ => ?_) hs hw
  rw [h1]
  exact thn (hg pins s1 σ H1 x v _ I1 r1 q1) fun _ s2 q => q
theorem ps_set {i : Nat} {x : Str} {e : Expr} {te : TE} {pos' : Pos} (hN : X.N.Nodup) (hi : X.N[i]? = some x) (hx : Loc X.env.scope x) (he : PE X e te) (hs : swapsWith e (some (.Name x pos')) pos.line X.env = pure false := by rfl) (hf : X.fn x = true ∨ X.env.scope.names.lookup x = some .local := by first | exact .inl rfl | exact .inr rfl | assumption) :
    PS X (.Assign [.Name x pos'] e pos) (tAsg te (gName i)) := by
  intro pins s σ H D I h
  refine wpAny_Assign_Name (thn (he pins s σ H _ I h) fun v s1 ⟨y, H1, I1, r1, q1⟩ => ?_) hs
  exact store_ok I1 hN hi hx r1 (fun s2 I2 => ⟨_, H1, I2, q1⟩) hf
end
section
variable {X : Cx} {pos : Pos}
def tWhile (c : TT) (tb : TS) : TS := fun D σ H => ∃ W : Nat → St → Hp → Prop, (∃ m, W m σ H) ∧ ∀ m σ H, W m σ H →
  c σ H fun b H1 => if b = true then ∃ N : St → Hp → Prop, (∀ σ' H', N σ' H' → ∃ m', m' < m ∧ W m' σ' H') ∧ tb { D with nx := N, ct := N, bk := D.nx } σ H1 else D.nx σ H1
theorem ps_while {c : Expr} {body : List Stmt} {tc : TT} {tb : TS} (hp : PassesOwn (model X.prog X.w) X.A X.env X.xe) (hc : PT X c tc) (hb : PSs X body tb) : PS X (.While c body [] pos) (tWhile tc tb) := by
  intro pins s σ H D I h
  obtain ⟨W, ⟨m0, w0⟩, turn⟩ := h
  refine wpAny_While (codeAny_whileLoop (fun n s' => ∃ σ' H', Inv X pins σ' H' s' ∧ W n σ' H') ?_ m0 ⟨σ, H, I, w0⟩)
  rintro n s1 ⟨σ1, H1, I1, w1⟩
  refine wpAny_passesOwn hp (thn (hc pins s1 σ1 H1 _ I1 (turn n σ1 H1 w1)) fun b s2 ⟨H2, I2, q2⟩ => ?_)
  cases b with
  | true =>
    obtain ⟨N, hN, q2⟩ := q2
    rw [if_pos rfl]
    refine wpAny_passesOwn hp (thn (hb pins s2 σ1 H2 _ I2 q2) fun f s3 q3 => ?_)
    cases f with
    | next =>
      obtain ⟨σ3, H3, I3, n3⟩ := q3
      obtain ⟨m', hm, w3⟩ := hN σ3 H3 n3
      exact ⟨m', hm, σ3, H3, I3, w3⟩
    | cont =>
      obtain ⟨σ3, H3, I3, n3⟩ := q3
      obtain ⟨m', hm, w3⟩ := hN σ3 H3 n3
      exact ⟨m', hm, σ3, H3, I3, w3⟩
    | brk => exact q3
    | ret v => exact q3
  | false =>
    rw [if_neg Bool.false_ne_true]
    exact wpAny_execs_nil ⟨σ1, H2, I2, q2⟩
end
structure It where
  go : Nat → Hp → Prop
  yld : Nat → Hp → V → Hp → Prop
  stop : Nat → Hp → Prop
def FpOk (X : Cx) (pins : List (Addr × Obj)) (H : Hp) (b : Addr) : Prop :=
  H b = none ∧ b ≠ X.env.locals ∧ b ∉ X.fs ∧ (b ∈ X.ex ∨ X.s₀.heap.objs.size ≤ b) ∧ (∀ x c, X.env.cells.lookup x = some c → c ≠ b) ∧ ∀ p ∈ X.pn ++ pins, p.1 ≠ b
theorem Inv.fpOk {X : Cx} {pins : List (Addr × Obj)} {σ : St} {H H' : Hp} {s : Shared} {b : Addr} (I : Inv X pins σ H s) (hb : s.heap.objs.size ≤ b) (hn : H' b = none) : FpOk X pins H' b := by
  refine ⟨hn, Nat.ne_of_gt (Nat.lt_of_lt_of_le I.lt hb), I.nofs hb, .inr (Nat.le_trans I.sz hb), fun x c e z => ?_, fun p hp z => ?_⟩
  · obtain ⟨v, q⟩ := I.cell x c e
    exact absurd (Nat.lt_of_lt_of_le q.lt (by rw [z]; exact hb)) (Nat.lt_irrefl _)
  · exact absurd (Nat.lt_of_lt_of_le (Heap.lt_size (I.pin p hp).1) (by rw [z]; exact hb)) (Nat.lt_irrefl _)
structure Turn (P : Program) (w : World) (K : PySem.W.Frag) (tg : Expr) (J : It) (fp : List Addr) (it : Addr) (tn : Nat → Heap → Prop) : Prop where
  mem : it ∈ fp
  obj : ∀ i h, tn i h → ∀ b ∈ fp, ∃ o, h.get? b = some o ∧ ∀ v, o.data ≠ .cell v
  keep : ∀ i h h', tn i h → (∀ b ∈ fp, ∀ o, h.get? b = some o → h'.get? b = some o) → tn i h'
  item : ∀ (X : Cx), X.prog = P → X.w = w → X.K = K → X.calm = true → ∀ (i : Nat) (pins : List (Addr × Obj)) (s : Shared) (σ : St) (H : Hp) (E : Value → Shared → Prop), Inv X pins σ H s → (∀ b ∈ fp, FpOk X pins H b) → tn i s.heap → J.go i H →
    wpAny (model P w) X.A (pyNext (.ref it)) (fun r s1 => ∃ u, r = some u ∧
      wpAny (model P w) X.A (letOwnedTupleGo tg (.ref it) u) (fun _ s2 => ∃ x H', Inv X pins σ H' s2 ∧ RelV x u ∧ J.yld i H x H' ∧ tn (i + 1) s2.heap ∧ ∀ b ∈ fp, H' b = none) E s1) E s
  done : ∀ (X : Cx), X.prog = P → X.w = w → X.K = K → X.calm = true → ∀ (i : Nat) (pins : List (Addr × Obj)) (s : Shared) (σ : St) (H : Hp) (E : Value → Shared → Prop), Inv X pins σ H s → (∀ b ∈ fp, FpOk X pins H b) → tn i s.heap → J.stop i H →
    wpAny (model P w) X.A (pyNext (.ref it)) (fun r s1 => r = none ∧ Inv X pins σ H s1) E s
  self : ∀ (A : Around) (i : Nat) (s : Shared) (Q : Value → Shared → Prop) (E : Value → Shared → Prop), tn i s.heap → Q (.ref it) s → wpAny (model P w) A (pyIter (.ref it)) Q E s
abbrev TI := St → Hp → (It → Hp → Prop) → Prop
def PIE (X : Cx) (pins : List (Addr × Obj)) (σ : St) (tg : Expr) (R : It → Hp → Prop) (itv : Value) (s2 : Shared) : Prop :=
  ∃ (it : Addr) (fp : List Addr) (tn : Nat → Heap → Prop) (J : It) (H' : Hp), itv = .ref it ∧ Inv X pins σ H' s2 ∧ Turn X.prog X.w X.K tg J fp it tn ∧ tn 0 s2.heap ∧ (∀ b ∈ fp, FpOk X pins H' b) ∧ R J H'
def PI (X : Cx) (tg iter : Expr) (wi : TI) : Prop :=
  ∀ (pins : List (Addr × Obj)) (s : Shared) (σ : St) (H : Hp) (R : It → Hp → Prop), Inv X pins σ H s → wi σ H R →
    wpAny (model X.prog X.w) X.A (eval iter X.env) (fun v s1 => wpAny (model X.prog X.w) X.A (pyIter v) (PIE X pins σ tg R) X.xe s1) X.xe s
theorem go_of {M : Model} {A : Around} {E : Value → Shared → Prop} {s : Shared} {tg : Expr} {it : Addr} {u : Value} {o : Obj} {n : String} {vs : Array Value} {Q : Unit → Shared → Prop} (ho : s.heap.get? it = some o) (hc : o.cls = .type n) (hd : o.data = .fields vs)
    (hn : ["enumerate", "zip", "dict_itemiterator", "dict_reverseitemiterator", "odict_iterator", "itertools.zip_longest", "itertools.pairwise"].contains n = false) (hQ : Q () s) : wpAny M A (letOwnedTupleGo tg (.ref it) u) Q E s := by
  unfold letOwnedTupleGo
  cases tg <;> first
    | exact wpAny_pure hQ
    | (cases u <;> first
        | exact wpAny_pure hQ
        | (refine wpAny_bind (wpAny_load ho ?_)
           rw [hc, hd]
           show wpAny M A (if (["enumerate", "zip", "dict_itemiterator", "dict_reverseitemiterator", "odict_iterator", "itertools.zip_longest", "itertools.pairwise"].contains n && vs[0]? == some (rawInt _)) = true then _ else _) Q E s
           rw [if_neg (by intro h; rw [hn, Bool.false_and] at h; cases h)]
           exact wpAny_pure hQ))
def Itl (K : PySem.W.Frag) (a : Addr) : It :=
  ⟨fun i H => ∃ xs x, SqL K H a xs ∧ xs[i]? = some x, fun i H x H' => H' = H ∧ ∀ xs, SqL K H a xs → xs[i]? = some x, fun i H => ∃ xs, SqL K H a xs ∧ xs.length ≤ i⟩
def Itt (K : PySem.W.Frag) (a : Addr) : It :=
  ⟨fun i H => ∃ xs x, SqT K H a xs ∧ xs[i]? = some x, fun i H x H' => H' = H ∧ ∀ xs, SqT K H a xs → xs[i]? = some x, fun i H => ∃ xs, SqT K H a xs ∧ xs.length ≤ i⟩
def Itr (lo : Int) (n : Nat) : It := ⟨fun i _ => i < n, fun i H x H' => H' = H ∧ x = .int (lo + i), fun i _ => n ≤ i⟩
theorem turn_list {P : Program} {w : World} {K : PySem.W.Frag} {tg : Expr} (a it : Addr) : Turn P w K tg (Itl K a) [it] it (fun i h => h.IsListIter it a i) where
  mem := by simp
  obj := fun i h st b hb => by
    have e : b = it := by simpa using hb
    subst e
    obtain ⟨o, e, c, d⟩ := st
    exact ⟨o, e, fun v z => by rw [d] at z; cases z⟩
  keep := fun i h h' st k => st.at fun o e => k it (by simp) o e
  item := by
    intro X hP hw hK hc i pins s σ H E I hf st hg
    subst hP hw hK
    obtain ⟨xs, x, hq, hx⟩ := hg
    obtain ⟨its, rv, p, hz⟩ := I.list hq
    obtain ⟨u, hu, ru⟩ := rv.get hx
    obtain ⟨f0, f1, f2, f3, f4, f5⟩ := hf it (by simp)
    refine wpAny_pyNext_list_item st p.isList (x := u) (by simpa using hu) fun h' st' sb => ?_
    have I1 : Inv X pins σ H { s with heap := h' } := I.turned (t' := s.toks) (fun b o hb e => (sb.2 b hb).trans e) f0 f1 f3 f4 f5
    obtain ⟨o, e, c, d⟩ := id st'
    exact ⟨u, rfl, go_of (s := { s with heap := h' }) e c d (by decide) ⟨x, H, I1, ru, ⟨rfl, fun ys hy => by rw [I.list_inj hy hq]; exact hx⟩, st', fun b hb => (hf b hb).1⟩⟩
  done := by
    intro X hP hw hK hc i pins s σ H E I hf st hg
    subst hP hw hK
    obtain ⟨xs, hq, hx⟩ := hg
    obtain ⟨its, rv, p, hz⟩ := I.list hq
    obtain ⟨f0, f1, f2, f3, f4, f5⟩ := hf it (by simp)
    have hl := rv.length
    exact wpAny_pyNext_list_end (I.ok.hd hc) st p.isList (by simp; omega) fun h' eb => ⟨rfl, I.turned (t' := s.toks) (fun b o hb e => eb b o hb e) f0 f1 f3 f4 f5⟩
  self := fun _ _ _ _ _ st h => wpAny_pyIter_listiter st h
theorem turn_tuple {P : Program} {w : World} {K : PySem.W.Frag} {tg : Expr} (a it : Addr) : Turn P w K tg (Itt K a) [it] it (fun i h => h.IsTupleIter it a i) where
  mem := by simp
  obj := fun i h st b hb => by
    have e : b = it := by simpa using hb
    subst e
    obtain ⟨o, e, c, d⟩ := st
    exact ⟨o, e, fun v z => by rw [d] at z; cases z⟩
  keep := fun i h h' st k => st.at fun o e => k it (by simp) o e
  item := by
    intro X hP hw hK hc i pins s σ H E I hf st hg
    subst hP hw hK
    obtain ⟨xs, x, hq, hx⟩ := hg
    obtain ⟨its, rv, p, hz⟩ := I.tuple hq
    obtain ⟨u, hu, ru⟩ := rv.get hx
    obtain ⟨f0, f1, f2, f3, f4, f5⟩ := hf it (by simp)
    refine wpAny_pyNext_tuple_item st (show s.heap.IsTuple a its.toArray from p) (x := u) (by simpa using hu) fun h' st' sb => ?_
    have I1 : Inv X pins σ H { s with heap := h' } := I.turned (t' := s.toks) (fun b o hb e => (sb.2 b hb).trans e) f0 f1 f3 f4 f5
    obtain ⟨o, e, c, d⟩ := id st'
    exact ⟨u, rfl, go_of (s := { s with heap := h' }) e c d (by decide) ⟨x, H, I1, ru, ⟨rfl, fun ys hy => by rw [I.tuple_inj hy hq]; exact hx⟩, st', fun b hb => (hf b hb).1⟩⟩
  done := by
    intro X hP hw hK hc i pins s σ H E I hf st hg
    subst hP hw hK
    obtain ⟨xs, hq, hx⟩ := hg
    obtain ⟨its, rv, p, hz⟩ := I.tuple hq
    obtain ⟨f0, f1, f2, f3, f4, f5⟩ := hf it (by simp)
    have hl := rv.length
    exact wpAny_pyNext_tuple_end (I.ok.hd hc) st (show s.heap.IsTuple a its.toArray from p) (by simp; omega) fun h' eb => ⟨rfl, I.turned (t' := s.toks) (fun b o hb e => eb b o hb e) f0 f1 f3 f4 f5⟩
  self := fun _ _ _ _ _ st h => wpAny_pyIter_tupleiter st h
theorem turn_range {P : Program} {w : World} {K : PySem.W.Frag} {tg : Expr} (it : Addr) (lo : Int) (n : Nat) : Turn P w K tg (Itr lo n) [it] it (fun i h => IsRangeIter h it (lo + (i : Nat) * 1) ((n : Int) - (i : Nat)) 1) where
  mem := by simp
  obj := fun i h st b hb => by
    have e : b = it := by simpa using hb
    subst e
    exact ⟨_, st, fun v z => by
      have z' : Data.fields _ = Data.cell v := z
      cases z'⟩
  keep := fun i h h' st k => k it (by simp) _ st
  item := by
    intro X hP hw hK hc i pins s σ H E I hf st hg
    subst hP hw hK
    obtain ⟨f0, f1, f2, f3, f4, f5⟩ := hf it (by simp)
    have W := Walks.range (prog := X.prog) (w := X.w) (I.ok.hd hc) it lo 1 n
    refine W.item i s _ _ hg st fun v h' tk hv st' kk => ?_
    obtain ⟨t, rfl⟩ := hv
    have I1 : Inv X pins σ H { s with heap := h', toks := tk } := I.turned (fun b o hb e => kk b o (by simpa using hb) e) f0 f1 f3 f4 f5
    refine ⟨_, rfl, go_of (s := { s with heap := h', toks := tk }) (n := "range_iterator") st' rfl rfl (by decide) ⟨.int (lo + i), H, I1, ⟨t, ?_⟩, ⟨rfl, rfl⟩, st', fun b hb => (hf b hb).1⟩⟩
    rw [Int.mul_one]
  done := by
    intro X hP hw hK hc i pins s σ H E I hf st hg
    subst hP hw hK
    obtain ⟨f0, f1, f2, f3, f4, f5⟩ := hf it (by simp)
    exact wpAny_pyNext_range_end (I.ok.hd hc) st (by have : n ≤ i := hg; omega) fun h' eb => ⟨rfl, I.turned (t' := s.toks) (fun b o hb e => eb b o hb e) f0 f1 f3 f4 f5⟩
  self := fun _ _ _ _ _ st h => wpAny_pyIter_rangeiter st h
end L2
namespace L2
open PySem PySem.Spec PyProof.Rows
section
variable {X : Cx} {tg : Expr}
def iList (K : PySem.W.Frag) (tl : TE) : TI := fun σ H R => tl σ H fun x H1 => ∃ a, x = .ref a ∧ (∃ xs, SqL K H1 a xs) ∧ R (Itl K a) H1
def iTup (K : PySem.W.Frag) (tl : TE) : TI := fun σ H R => tl σ H fun x H1 => ∃ a, x = .ref a ∧ (∃ xs, SqT K H1 a xs) ∧ R (Itt K a) H1
theorem pi_list {l : Expr} {tl : TE} (hl : PE X l tl) : PI X tg l (iList X.K tl) := by
  intro pins s σ H R I h
  refine thn (hl pins s σ H _ I h) fun v s1 ⟨x, H1, I1, r1, q1⟩ => ?_
  obtain ⟨a, e, ⟨xs, hq⟩, q⟩ := q1
  subst e
  cases r1
  obtain ⟨its, rv, p, hz⟩ := I1.list hq
  refine wpAny_pyIter_list p.isList ?_
  refine ⟨s1.heap.objs.size, [s1.heap.objs.size], _, _, H1, rfl, I1.kept (t' := s1.toks) fun b o e => Heap.get?_push_of_some _ e, turn_list a _, ⟨_, Heap.get?_push_size _ rfl, rfl, rfl⟩, fun b hb => ?_, q⟩
  have e : b = s1.heap.objs.size := by simpa using hb
  subst e
  exact I1.fpOk (Nat.le_refl _) (I1.hok.fresh (Nat.le_refl _))
theorem pi_tup {l : Expr} {tl : TE} (hl : PE X l tl) : PI X tg l (iTup X.K tl) := by
  intro pins s σ H R I h
  refine thn (hl pins s σ H _ I h) fun v s1 ⟨x, H1, I1, r1, q1⟩ => ?_
  obtain ⟨a, e, ⟨xs, hq⟩, q⟩ := q1
  subst e
  cases r1
  obtain ⟨its, rv, p, hz⟩ := I1.tuple hq
  refine wpAny_pyIter_tuple (show s1.heap.IsTuple a its.toArray from p) ?_
  refine ⟨s1.heap.objs.size, [s1.heap.objs.size], _, _, H1, rfl, I1.kept (t' := s1.toks) fun b o e => Heap.get?_push_of_some _ e, turn_tuple a _, ⟨_, Heap.get?_push_size _ rfl, rfl, rfl⟩, fun b hb => ?_, q⟩
  have e : b = s1.heap.objs.size := by simpa using hb
  subst e
  exact I1.fpOk (Nat.le_refl _) (I1.hok.fresh (Nat.le_refl _))
theorem range_it {pins : List (Addr × Obj)} {σ : St} {H : Hp} {s : Shared} {R : It → Hp → Prop} {E : Value → Shared → Prop} {lo hi : Int} {t u v : Tok} {tk : Nat} (I : Inv X pins σ H s) (h1 : -(2 ^ 62) ≤ lo) (h2 : lo < 2 ^ 62) (h3 : -(2 ^ 62) ≤ hi) (h4 : hi < 2 ^ 62)
    (q : R (Itr lo (hi - lo).toNat) H) : wpAny (model X.prog X.w) X.A (pyIter (.ref s.heap.objs.size)) (PIE X pins σ tg R) E { s with heap := s.heap.push { cls := .type "range", data := .fields #[.int lo t, .int hi u, .int 1 v] }, toks := tk } := by
  refine wpAny_pyIter_range (IsRange.new ..) (small_one h1 h2 h3 h4) ?_
  have I1 : Inv X pins σ H { s with heap := s.heap.push { cls := .type "range", data := .fields #[.int lo t, .int hi u, .int 1 v] }, toks := tk } := I.kept fun b o e => Heap.get?_push_of_some _ e
  refine ⟨(s.heap.push { cls := .type "range", data := .fields #[.int lo t, .int hi u, .int 1 v] }).objs.size, [(s.heap.push { cls := .type "range", data := .fields #[.int lo t, .int hi u, .int 1 v] }).objs.size], _, _, H, rfl,
    I1.kept (t' := tk) fun b o e => Heap.get?_push_of_some _ e, turn_range _ lo (hi - lo).toNat, ?_, fun b hb => ?_, q⟩
  · have e1 : lo + ((0 : Nat) : Int) * 1 = lo := by simp
    have e2 : (((hi - lo).toNat : Nat) : Int) - ((0 : Nat) : Int) = Builtin.Range.rangeSize lo hi 1 := by rw [rangeSize_one]; split <;> omega
    show IsRangeIter _ _ (lo + ((0 : Nat) : Int) * 1) ((((hi - lo).toNat : Nat) : Int) - ((0 : Nat) : Int)) 1
    rw [e1, e2]
    exact Heap.get?_push_size _ rfl
  · have e : b = (s.heap.push { cls := .type "range", data := .fields #[.int lo t, .int hi u, .int 1 v] }).objs.size := by simpa using hb
    subst e
    exact I1.fpOk (Nat.le_refl _) (I1.hok.fresh (Nat.le_refl _))
def iRng1 (ta : TA) : TI := fun σ H R => ta σ H fun vs H1 => ∃ j : Int, vs = [.int j] ∧ -(2 ^ 62) ≤ j ∧ j < 2 ^ 62 ∧ R (Itr 0 j.toNat) H1
theorem pi_range1 {a : Expr} {ta : TA} {p pos : Pos} (hg : Gl X "range") (hm : X.mg "range" = none) (ha : PA X [a] ta) (hs : starEach [a] X.env = [(false, eval a X.env)] := by rfl) : PI X tg (.Call (.Name "range" p) [a] [] pos) (iRng1 ta) := by
  intro pins s σ H R I h
  refine Call_ (ld_blt I hg hm boot_range (PyProof.Rows.callWith_type1 (thn (ha pos pins s σ H _ I h) fun us s1 ⟨vs, H1, I1, r1, q1⟩ => ?_) hs rfl))
  obtain ⟨j, e, q1, q2, q⟩ := q1
  subst e
  cases r1 with
  | cons r rr =>
    cases rr
    obtain ⟨t, rfl⟩ := r
    exact call_range_1 (range_it I1 (by omega) (by omega) q1 q2 (by simpa using q))
def tFor (wi : TI) (g : TG) (tb : TS) : TS := fun D σ H => wi σ H fun J H1 => ∃ W : Nat → Nat → St → Hp → Prop, (∃ m, W 0 m σ H1) ∧ ∀ i m σ H, W i m σ H →
  (J.stop i H ∧ D.nx σ H) ∨ (J.go i H ∧ ∃ N : St → Hp → Prop, (∀ σ' H', N σ' H' → ∃ m', m' < m ∧ W (i + 1) m' σ' H') ∧ ∀ x H', J.yld i H x H' → g x σ H' fun σ2 H2 => tb { D with nx := N, ct := N, bk := D.nx } σ2 H2)
def pinsAt (fp : List Addr) (h : Heap) : List (Addr × Obj) := fp.filterMap fun b => (h.get? b).map fun o => (b, o)
theorem mem_pinsAt {fp : List Addr} {h : Heap} {b : Addr} {o : Obj} (hb : b ∈ fp) (e : h.get? b = some o) : (b, o) ∈ pinsAt fp h := List.mem_filterMap.mpr ⟨b, hb, by rw [e]; rfl⟩
theorem of_pinsAt {fp : List Addr} {h : Heap} {p : Addr × Obj} (hp : p ∈ pinsAt fp h) : p.1 ∈ fp ∧ h.get? p.1 = some p.2 := by
  obtain ⟨b, hb, e⟩ := List.mem_filterMap.mp hp
  cases q : h.get? b with
  | none => rw [q] at e; cases e
  | some o =>
    rw [q] at e
    have e' : (b, o) = p := Option.some.inj e
    subst e'
    exact ⟨hb, q⟩
theorem Inv.pinned {pins : List (Addr × Obj)} {σ : St} {H : Hp} {s : Shared} {fp : List Addr} (I : Inv X pins σ H s) (hf : ∀ b ∈ fp, FpOk X pins H b) (ho : ∀ b ∈ fp, ∃ o, s.heap.get? b = some o ∧ ∀ v, o.data ≠ .cell v) : Inv X (pins ++ pinsAt fp s.heap) σ H s :=
  I.pins_of fun p hp => (List.mem_append.mp hp).elim (fun z => I.pin p (List.mem_append_right _ z)) fun z => by
    obtain ⟨hb, e⟩ := of_pinsAt z
    obtain ⟨f0, f1, f2, _⟩ := hf p.1 hb
    obtain ⟨o, e', d⟩ := ho p.1 hb
    rw [e] at e'; cases e'
    exact ⟨e, f0, f1, f2, d⟩
theorem Inv.unpinned {pins pl : List (Addr × Obj)} {σ : St} {H : Hp} {s : Shared} (I : Inv X (pins ++ pl) σ H s) : Inv X pins σ H s := I.pins_of fun p hp => I.pin p (List.mem_append_right _ (List.mem_append_left _ hp))
theorem ps_for {iter : Expr} {body : List Stmt} {wi : TI} {g : TG} {tb : TS} {pos : Pos} (hp : PassesOwn (model X.prog X.w) X.A X.env X.xe) (hc : X.calm = true) (hi : PI X tg iter wi) (hg : PG X tg g) (hb : PSs X body tb)
    (hs : ∀ x, foldedSetIterable iter X.env x = pure x := by intro _; rfl) : PS X (.For tg iter body [] pos) (tFor wi g tb) := by
  intro pins s σ H D I h
  refine wpAny_For (thn (hi pins s σ H _ I h) fun v s1 h1 => thn h1 fun itv s2 h2 => ?_) hs
  obtain ⟨it, fp, tn, J, H2, e, I2, T, st2, f2, W, ⟨m0, w0⟩, turn⟩ := h2
  subst e
  have stat : ∀ {H' : Hp}, (∀ b ∈ fp, H' b = none) → ∀ b ∈ fp, FpOk X pins H' b := fun hn b hb => ⟨hn b hb, (f2 b hb).2⟩
  refine codeAny_forLoop_any (fun n s' => ∃ i σ' H', Inv X pins σ' H' s' ∧ tn i s'.heap ∧ (∀ b ∈ fp, H' b = none) ∧ W i n σ' H') ?_ m0 ⟨0, σ, H2, I2, st2, fun b hb => (f2 b hb).1, w0⟩
  rintro n s3 ⟨i, σ3, H3, I3, st3, fr3, w3⟩
  rcases turn i n σ3 H3 w3 with ⟨stop, qn⟩ | ⟨go, N, hN, step⟩
  · refine wpAny_passesOwn hp (thn (T.done X rfl rfl rfl hc i pins s3 σ3 H3 X.xe I3 (stat fr3) st3 stop) fun r s4 ⟨hr, I4⟩ => ?_)
    subst hr
    exact wpAny_execs_nil ⟨σ3, H3, I4, qn⟩
  · refine wpAny_passesOwn hp (thn (T.item X rfl rfl rfl hc i pins s3 σ3 H3 X.xe I3 (stat fr3) st3 go) fun r s4 ⟨u, hr, h4⟩ => ?_)
    subst hr
    refine wpAny_passesOwn hp (thn h4 fun _ s5 ⟨x, H5, I5, r5, y5, st5, fr5⟩ => ?_)
    have I5' := I5.pinned (stat fr5) (T.obj _ _ st5)
    refine wpAny_passesOwn hp (thn (hg _ s5 σ3 H5 x u _ I5' r5 (step x H5 y5)) fun _ s6 ⟨σ6, H6, I6, q6⟩ => ?_)
    refine wpAny_passesOwn hp (thn (hb _ s6 σ6 H6 _ I6 q6) fun f s7 q7 => ?_)
    have again : ∀ {σ7 : St} {H7 : Hp}, Inv X (pins ++ pinsAt fp s5.heap) σ7 H7 s7 → N σ7 H7 → ∃ m, m < n ∧ ∃ i σ' H', Inv X pins σ' H' s7 ∧ tn i s7.heap ∧ (∀ b ∈ fp, H' b = none) ∧ W i m σ' H' := fun {σ7 H7} I7 n7 => by
      obtain ⟨m', hm, w7⟩ := hN σ7 H7 n7
      refine ⟨m', hm, i + 1, σ7, H7, I7.unpinned, T.keep _ _ _ st5 fun b hb o e => (I7.pin (b, o) (List.mem_append_right _ (List.mem_append_right _ (mem_pinsAt hb e)))).1, fun b hb => ?_, w7⟩
      obtain ⟨o, e, d⟩ := T.obj _ _ st5 b hb
      exact (I7.pin (b, o) (List.mem_append_right _ (List.mem_append_right _ (mem_pinsAt hb e)))).2.1
    cases f with
    | next => obtain ⟨σ7, H7, I7, n7⟩ := q7; exact again I7 n7
    | cont => obtain ⟨σ7, H7, I7, n7⟩ := q7; exact again I7 n7
    | brk => obtain ⟨σ7, H7, I7, q7⟩ := q7; exact ⟨σ7, H7, I7.unpinned, q7⟩
    | ret v => obtain ⟨x7, σ7, H7, I7, r7, q7⟩ := q7; exact ⟨x7, σ7, H7, I7.unpinned, r7, q7⟩
end
end L2
namespace L2
open PySem PySem.Spec PyProof.Rows
abbrev R2 := V → V → Hp → VK → Prop
def OpR (X : Cx) (f : Value → Value → Sem Value) (r : R2) : Prop :=
  ∀ (pins : List (Addr × Obj)) (s : Shared) (σ : St) (H : Hp) (x y : V) (v u : Value) (Q : VK), Inv X pins σ H s → RelV x v → RelV y u → r x y H Q →
    wpAny (model X.prog X.w) X.A (f v u) (EP X pins σ Q) X.xe s
def UnR (X : Cx) (f : Value → Sem Value) (r : V → Hp → VK → Prop) : Prop :=
  ∀ (pins : List (Addr × Obj)) (s : Shared) (σ : St) (H : Hp) (x : V) (v : Value) (Q : VK), Inv X pins σ H s → RelV x v → r x H Q →
    wpAny (model X.prog X.w) X.A (f v) (EP X pins σ Q) X.xe s
def CallR (X : Cx) (f : Value) (r : List V → Hp → VK → Prop) : Prop :=
  ∀ (pins : List (Addr × Obj)) (s : Shared) (σ : St) (H : Hp) (xs : List V) (us : List Value) (Q : VK), Inv X pins σ H s → Vals xs us → r xs H Q →
    wpAny (model X.prog X.w) X.A (call f us) (EP X pins σ Q) X.xe s
def TruR (X : Cx) (r : V → Hp → (Bool → Hp → Prop) → Prop) : Prop :=
  ∀ (pins : List (Addr × Obj)) (s : Shared) (σ : St) (H : Hp) (x : V) (v : Value) (Q : Bool → Hp → Prop), Inv X pins σ H s → RelV x v → r x H Q →
    wpAny (model X.prog X.w) X.A (truthy v) (TP X pins σ Q) X.xe s
def tOp (r : R2) (ta tb : TE) : TE := fun σ H Q => ta σ H fun x H1 => tb σ H1 fun y H2 => r x y H2 Q
def tUn (r : V → Hp → VK → Prop) (ta : TE) : TE := fun σ H Q => ta σ H fun x H1 => r x H1 Q
def rI (C : Int → Int → Prop) (g : Int → Int → V) : R2 := fun x y H Q => ∃ i j, x = .int i ∧ y = .int j ∧ C i j ∧ Q (g i j) H
def rI0 (g : Int → Int → V) : R2 := fun x y H Q => ∃ i j, x = .int i ∧ y = .int j ∧ Q (g i j) H
def rU (g : Int → V) : V → Hp → VK → Prop := fun x H Q => ∃ i, x = .int i ∧ Q (g i) H
section
variable {X : Cx} {a b c : Expr} {ta tb tc : TE} {pos : Pos}
theorem binT (ha : PE X a ta) (hb : PE X b tb) {pins : List (Addr × Obj)} {s : Shared} {σ : St} {H : Hp} {R : V → V → Hp → Prop} (I : Inv X pins σ H s)
    (h : ta σ H fun x H1 => tb σ H1 fun y H2 => R x y H2) {Q : Value → Shared → Prop} {f : Value → Value → Sem Value}
    (hf : ∀ v u s2 x y H2, Inv X pins σ H2 s2 → RelV x v → RelV y u → R x y H2 → wpAny (model X.prog X.w) X.A (f v u) Q X.xe s2) :
    wpAny (model X.prog X.w) X.A (eval a X.env) (fun v s₁ => wpAny (model X.prog X.w) X.A (eval b X.env) (fun u s₂ => wpAny (model X.prog X.w) X.A (f v u) Q X.xe s₂) X.xe s₁) X.xe s := by
  refine thn (ha pins s σ H _ I h) fun v s1 ⟨x, H1, I1, r1, q1⟩ => ?_
  refine thn (hb pins s1 σ H1 _ I1 q1) fun u s2 ⟨y, H2, I2, r2, q2⟩ => ?_
  exact hf v u s2 x y H2 I2 r1 r2 q2
theorem pe_op {op : Operator} {r : R2} (ho : OpR X (binaryOp op) r) (ha : PE X a ta) (hb : PE X b tb) : PE X (.BinOp a op b pos) (tOp r ta tb) := by
  intro pins s σ H Q I h
  exact wpAny_BinOp (binT ha hb I h fun v u s2 x y H2 I2 rx ry q => ho pins s2 σ H2 x y v u Q I2 rx ry q)
theorem pe_un {op : UnaryOp} {r : V → Hp → VK → Prop} (ho : UnR X (unaryOp op) r) (ha : PE X a ta) : PE X (.UnaryOp op a pos) (tUn r ta) := by
  intro pins s σ H Q I h
  exact UnaryOp_ (thn (ha pins s σ H _ I h) fun v s1 ⟨x, H1, I1, r1, q1⟩ => ho pins s1 σ H1 x v Q I1 r1 q1)
theorem opI {f : Value → Value → Sem Value} {C : Int → Int → Prop} {g : Int → Int → Int}
    (rule : ∀ (i j : Int) (t u : Tok) (s : Shared) (Q : Value → Shared → Prop) (E : Value → Shared → Prop), C i j → Q (.int (g i j) s.toks) { s with toks := s.toks + 1 } → wpAny (model X.prog X.w) X.A (f (.int i t) (.int j u)) Q E s) :
    OpR X f (rI C fun i j => .int (g i j)) := by
  intro pins s σ H x y v u Q I rx ry h
  obtain ⟨i, j, rfl, rfl, hc, q⟩ := h
  obtain ⟨t, rfl⟩ := rx
  obtain ⟨t', rfl⟩ := ry
  exact rule i j t t' s _ _ hc ⟨.int (g i j), H, I.tok _, ⟨_, rfl⟩, q⟩
theorem opI0 {f : Value → Value → Sem Value} {g : Int → Int → Int}
    (rule : ∀ (i j : Int) (t u : Tok) (s : Shared) (Q : Value → Shared → Prop) (E : Value → Shared → Prop), Q (.int (g i j) s.toks) { s with toks := s.toks + 1 } → wpAny (model X.prog X.w) X.A (f (.int i t) (.int j u)) Q E s) :
    OpR X f (rI0 fun i j => .int (g i j)) := by
  intro pins s σ H x y v u Q I rx ry h
  obtain ⟨i, j, rfl, rfl, q⟩ := h
  obtain ⟨t, rfl⟩ := rx
  obtain ⟨t', rfl⟩ := ry
  exact rule i j t t' s _ _ ⟨.int (g i j), H, I.tok _, ⟨_, rfl⟩, q⟩
theorem opB0 {f : Value → Value → Sem Value} {g : Int → Int → Bool}
    (rule : ∀ (i j : Int) (t u : Tok) (s : Shared) (Q : Value → Shared → Prop) (E : Value → Shared → Prop), Q (.bool (g i j)) s → wpAny (model X.prog X.w) X.A (f (.int i t) (.int j u)) Q E s) :
    OpR X f (rI0 fun i j => .bl (g i j)) := by
  intro pins s σ H x y v u Q I rx ry h
  obtain ⟨i, j, rfl, rfl, q⟩ := h
  obtain ⟨t, rfl⟩ := rx
  obtain ⟨t', rfl⟩ := ry
  exact rule i j t t' s _ _ ⟨.bl (g i j), H, I, rfl, q⟩
def CDiv (i j : Int) : Prop := 0 < j ∧ j < 1073741824
def CPow (i j : Int) : Prop := 0 ≤ j ∧ j ≤ 1000000 ∧ i.natAbs < 2 ^ 64
def CMul (i j : Int) : Prop := (-(2 ^ 64) < i ∧ i < 2 ^ 64) ∨ (-(2 ^ 64) < j ∧ j < 2 ^ 64)
theorem CMul.ok {i j : Int} (h : CMul i j) : IntMulOk i j := by
  rcases h with ⟨h1, h2⟩ | ⟨h1, h2⟩
  · exact .of_left (intBits_le_64 h1 h2)
  · exact .of_right (intBits_le_64 h1 h2)
theorem op_add : OpR X (binaryOp .Add) (rI0 fun i j => .int (i + j)) := opI0 fun _ _ _ _ _ _ _ q => add_int q
theorem op_sub : OpR X (binaryOp .Sub) (rI0 fun i j => .int (i - j)) := opI0 fun _ _ _ _ _ _ _ q => sub_int q
theorem op_mul : OpR X (binaryOp .Mult) (rI CMul fun i j => .int (i * j)) := opI fun _ _ _ _ _ _ _ hc q => mul_int q hc.ok
theorem op_fdiv : OpR X (binaryOp .FloorDiv) (rI CDiv fun i j => .int (i / j)) := opI fun i j _ _ _ _ _ hc q => by
  have h1 : (0 : Int) < j := hc.1
  have h2 : j < 1073741824 := hc.2
  exact floordiv_int (by omega) (by rw [Int.fdiv_eq_ediv_of_nonneg i (by omega)]; exact q) (.inl (PyProof.noPylong_small (by omega)))
theorem op_mod : OpR X (binaryOp .Mod) (rI (fun _ j => 0 < j) fun i j => .int (i % j)) := opI fun i j _ _ _ _ _ hc q => by
  have h1 : (0 : Int) < j := hc
  exact mod_int' (by omega) (by rw [Int.fmod_eq_emod_of_nonneg i (by omega)]; exact q)
theorem op_pow : OpR X (binaryOp .Pow) (rI CPow fun i j => .int (i ^ j.toNat)) := opI fun _ _ _ _ _ _ _ hc q => pow_int_small hc.1 hc.2.1 hc.2.2 q
theorem unI {f : Value → Sem Value} {g : Int → Int}
    (rule : ∀ (i : Int) (t : Tok) (s : Shared) (Q : Value → Shared → Prop) (E : Value → Shared → Prop), Q (.int (g i) s.toks) { s with toks := s.toks + 1 } → wpAny (model X.prog X.w) X.A (f (.int i t)) Q E s) :
    UnR X f (rU fun i => .int (g i)) := by
  intro pins s σ H x v Q I rx h
  obtain ⟨i, rfl, q⟩ := h
  obtain ⟨t, rfl⟩ := rx
  exact rule i t s _ _ ⟨.int (g i), H, I.tok _, ⟨_, rfl⟩, q⟩
theorem un_neg : UnR X (unaryOp .USub) (rU fun i => .int (-i)) := unI fun _ _ _ _ _ q => neg_int q
theorem op_add_ib : OpR X (binaryOp .Add) (fun x y H Q => ∃ i k, x = .int i ∧ y = .bl k ∧ Q (.int (i + b2i k)) H) := by
  intro pins s σ H x y v u Q I rx ry h
  obtain ⟨i, k, rfl, rfl, q⟩ := h
  obtain ⟨t, rfl⟩ := rx
  cases ry
  exact add_int_bool ⟨.int (i + b2i k), H, I.tok _, ⟨_, rfl⟩, q⟩
end
def scal : V → V → Bool
  | .non, .non => true | .non, .int _ => true | .int _, .non => true | .non, .bl _ => true | .bl _, .non => true | .non, .str _ => true | .str _, .non => true
  | .int _, .int _ => true | .bl _, .bl _ => true | .str _, .str _ => true | .byt _, .byt _ => true
  | .int _, .str _ => true | .str _, .int _ => true | .bl _, .str _ => true | .str _, .bl _ => true
  | _, _ => false
def rEq : R2 := fun x y H Q => scal x y = true ∧ Q (.bl (decide (x = y))) H
def rNe : R2 := fun x y H Q => scal x y = true ∧ Q (.bl (!decide (x = y))) H
theorem dec_int {i j : Int} : decide (V.int i = V.int j) = (i == j) := by
  rw [Bool.eq_iff_iff]
  simp
theorem dec_bl {i j : Bool} : decide (V.bl i = V.bl j) = (i == j) := by
  rw [Bool.eq_iff_iff]
  simp
theorem dec_str {i j : Str} : decide (V.str i = V.str j) = (i == j) := by
  rw [Bool.eq_iff_iff]
  simp
theorem dec_byt {i j : Array UInt8} : decide (V.byt i = V.byt j) = (i.toList == j.toList) := by
  rw [Bool.eq_iff_iff]
  cases i
  cases j
  simp
section
variable {X : Cx} {a b c : Expr} {ta tb tc : TE} {pos : Pos}
theorem fin_bl {pins : List (Addr × Obj)} {σ : St} {H : Hp} {s : Shared} {Q : VK} {k k' : Bool} (I : Inv X pins σ H s) (q : Q (.bl k) H) (e : k = k') : EP X pins σ Q (.bool k') s := by
  subst e
  exact ⟨.bl k, H, I, rfl, q⟩
theorem op_eq : OpR X (compareOp .Eq) rEq := by
  intro pins s σ H x y v u Q I rx ry h
  obtain ⟨hs, q⟩ := h
  cases x with
  | non =>
    cases rx
    cases y with
    | non => cases ry; exact PySem.EqNone.eq_none_none (fin_bl I q (by simp))
    | bl j => cases ry; exact PySem.EqNone.eq_none_bool (fin_bl I q (by simp))
    | int j => obtain ⟨t', rfl⟩ := ry; exact PySem.EqNone.eq_none_int (fin_bl I q (by simp))
    | str j => obtain ⟨t', rfl⟩ := ry; exact PySem.EqNone.eq_none_str (fin_bl I q (by simp))
    | _ => exact absurd (show false = true from hs) Bool.false_ne_true
  | bl i =>
    cases rx
    cases y with
    | non => cases ry; exact PySem.EqNone.eq_bool_none (fin_bl I q (by simp))
    | bl j => cases ry; exact eq_bool (fin_bl I q dec_bl)
    | str j => obtain ⟨t', rfl⟩ := ry; exact PySem.EqMixed.eq_bool_str (fin_bl I q (by simp))
    | _ => exact absurd (show false = true from hs) Bool.false_ne_true
  | int i =>
    obtain ⟨t, rfl⟩ := rx
    cases y with
    | non => cases ry; exact PySem.EqNone.eq_int_none (fin_bl I q (by simp))
    | int j => obtain ⟨t', rfl⟩ := ry; exact eq_int (fin_bl I q dec_int)
    | str j => obtain ⟨t', rfl⟩ := ry; exact PySem.EqMixed.eq_int_str (fin_bl I q (by simp))
    | _ => exact absurd (show false = true from hs) Bool.false_ne_true
  | str i =>
    obtain ⟨t, rfl⟩ := rx
    cases y with
    | non => cases ry; exact PySem.EqNone.eq_str_none (fin_bl I q (by simp))
    | bl j => cases ry; exact PySem.EqMixed.eq_str_bool (fin_bl I q (by simp))
    | int j => obtain ⟨t', rfl⟩ := ry; exact PySem.EqMixed.eq_str_int (fin_bl I q (by simp))
    | str j => obtain ⟨t', rfl⟩ := ry; exact eq_str (fin_bl I q dec_str)
    | _ => exact absurd (show false = true from hs) Bool.false_ne_true
  | byt i =>
    obtain ⟨t, rfl⟩ := rx
    cases y with
    | byt j => obtain ⟨t', rfl⟩ := ry; exact PySem.W.eq_bytes (fin_bl I q dec_byt)
    | _ => exact absurd (show false = true from hs) Bool.false_ne_true
  | _ => cases y <;> exact absurd (show false = true from hs) Bool.false_ne_true
theorem op_ne : OpR X (compareOp .NotEq) rNe := by
  intro pins s σ H x y v u Q I rx ry h
  obtain ⟨hs, q⟩ := h
  cases x with
  | non =>
    cases rx
    cases y with
    | non => cases ry; exact PySem.EqNone.ne_none_none (fin_bl I q (by simp))
    | bl j => cases ry; exact PySem.EqNone.ne_none_bool (fin_bl I q (by simp))
    | int j => obtain ⟨t', rfl⟩ := ry; exact PySem.EqNone.ne_none_int (fin_bl I q (by simp))
    | str j => obtain ⟨t', rfl⟩ := ry; exact PySem.EqNone.ne_none_str (fin_bl I q (by simp))
    | _ => exact absurd (show false = true from hs) Bool.false_ne_true
  | bl i =>
    cases rx
    cases y with
    | non => cases ry; exact PySem.EqNone.ne_bool_none (fin_bl I q (by simp))
    | bl j => cases ry; exact ne_bool (fin_bl I q (congrArg not dec_bl))
    | str j => obtain ⟨t', rfl⟩ := ry; exact PySem.EqMixed.ne_bool_str (fin_bl I q (by simp))
    | _ => exact absurd (show false = true from hs) Bool.false_ne_true
  | int i =>
    obtain ⟨t, rfl⟩ := rx
    cases y with
    | non => cases ry; exact PySem.EqNone.ne_int_none (fin_bl I q (by simp))
    | int j => obtain ⟨t', rfl⟩ := ry; exact ne_int (fin_bl I q (congrArg not dec_int))
    | str j => obtain ⟨t', rfl⟩ := ry; exact PySem.EqMixed.ne_int_str (fin_bl I q (by simp))
    | _ => exact absurd (show false = true from hs) Bool.false_ne_true
  | str i =>
    obtain ⟨t, rfl⟩ := rx
    cases y with
    | non => cases ry; exact PySem.EqNone.ne_str_none (fin_bl I q (by simp))
    | bl j => cases ry; exact PySem.EqMixed.ne_str_bool (fin_bl I q (by simp))
    | int j => obtain ⟨t', rfl⟩ := ry; exact PySem.EqMixed.ne_str_int (fin_bl I q (by simp))
    | str j => obtain ⟨t', rfl⟩ := ry; exact ne_str (fin_bl I q (congrArg not dec_str))
    | _ => exact absurd (show false = true from hs) Bool.false_ne_true
  | byt i =>
    obtain ⟨t, rfl⟩ := rx
    cases y with
    | byt j => obtain ⟨t', rfl⟩ := ry; exact PySem.W.ne_bytes (fin_bl I q (congrArg not dec_byt))
    | _ => exact absurd (show false = true from hs) Bool.false_ne_true
  | _ => cases y <;> exact absurd (show false = true from hs) Bool.false_ne_true
theorem op_lt : OpR X (compareOp .Lt) (rI0 fun i j => .bl (decide (i < j))) := opB0 fun _ _ _ _ _ _ _ q => lt_int q
theorem op_le : OpR X (compareOp .LtE) (rI0 fun i j => .bl (decide (i ≤ j))) := opB0 fun _ _ _ _ _ _ _ q => le_int q
theorem op_gt : OpR X (compareOp .Gt) (rI0 fun i j => .bl (decide (j < i))) := opB0 fun _ _ _ _ _ _ _ q => gt_int q
theorem op_in_str : OpR X (compareOp .In) (fun x y H Q => ∃ i j, x = .str i ∧ y = .str j ∧ Q (.bl (!(Builtin.Str.occurrences j i 0 j.length 1).isEmpty)) H) := by
  intro pins s σ H x y v u Q I rx ry h
  obtain ⟨i, j, rfl, rfl, q⟩ := h
  obtain ⟨t, rfl⟩ := rx
  obtain ⟨t', rfl⟩ := ry
  exact in_str (fin_bl I q rfl)
theorem nomark (b : Expr) {op : CmpOp} (h : op ≠ .In := by decide) (h2 : op ≠ .NotIn := by decide) : behindInMarks op b = false := by
  have e1 : (op == CmpOp.In) = false := by cases op <;> first | rfl | exact absurd rfl h
  have e2 : (op == CmpOp.NotIn) = false := by cases op <;> first | rfl | exact absurd rfl h2
  cases b <;> simp [behindInMarks, e1, e2]
theorem pe_cmpR {op : CmpOp} {r : R2} (ho : OpR X (compareOp op) r) (ha : PE X a ta) (hb : PE X b tb) (hm : behindInMarks op b = false) : PE X (.Compare a [op] [b] pos) (tOp r ta tb) := by
  intro pins s σ H Q I h
  exact wpAny_Compare1 (binT ha hb I h fun v u s2 x y H2 I2 rx ry q => ho pins s2 σ H2 x y v u Q I2 rx ry q) hm
def tTest (t : TE) : TT := fun σ H Q => t σ H fun x H' => ∃ k, x = .bl k ∧ Q k H'
theorem pt_cmpR {op : CmpOp} {r : R2} (ho : OpR X (compareOp op) r) (ha : PE X a ta) (hb : PE X b tb) (hm : behindInMarks op b = false) : PT X (.Compare a [op] [b] pos) (tTest (tOp r ta tb)) := by
  intro pins s σ H Q I h
  refine wpAny_isTrue_Compare1 (thn (ha pins s σ H _ I h) fun v s1 ⟨x, H1, I1, r1, q1⟩ => thn (hb pins s1 σ H1 _ I1 q1) fun u s2 ⟨y, H2, I2, r2, q2⟩ =>
    thn (ho pins s2 σ H2 x y v u _ I2 r1 r2 q2) fun c s3 ⟨z, H3, I3, r3, k, e, q3⟩ => ?_) hm
  subst e
  cases r3
  exact wpAny_truthy_bool ⟨H3, I3, q3⟩
def tChain (r r' : R2) (ta tb tc : TE) : TE := fun σ H Q => ta σ H fun x H1 => tb σ H1 fun y H2 => r x y H2 fun z H3 => ∃ k, z = .bl k ∧
  (if k = true then tc σ H3 fun w' H4 => r' y w' H4 Q else Q (.bl false) H3)
theorem pe_chain {op op' : CmpOp} {r r' : R2} (ho : OpR X (compareOp op) r) (ho' : OpR X (compareOp op') r') (ha : PE X a ta) (hb : PE X b tb) (hc : PE X c tc)
    (hm : lastMarks [op, op'] [b, c] = false := by with_unfolding_all rfl) : PE X (.Compare a [op, op'] [b, c] pos) (tChain r r' ta tb tc) := by
  intro pins s σ H Q I h
  refine Compare_chain (thn (ha pins s σ H _ I h) fun v s1 ⟨x, H1, I1, r1, q1⟩ => chain_link (thn (hb pins s1 σ H1 _ I1 q1) fun u s2 ⟨y, H2, I2, r2, q2⟩ =>
    thn (ho pins s2 σ H2 x y v u _ I2 r1 r2 q2) fun d s3 ⟨z, H3, I3, r3, k, e, q3⟩ => ?_)) hm
  subst e
  cases r3
  refine wpAny_truthy_bool ?_
  cases k with
  | false => exact ite_ff ⟨.bl false, H3, I3, rfl, q3⟩
  | true => exact ite_tt (chain_last (thn (hc pins s3 σ H3 _ I3 q3) fun w' s4 ⟨z', H4, I4, r4, q4⟩ => ho' pins s4 σ H4 y z' u w' Q I4 r2 r4 q4))
def TruV (K : PySem.W.Frag) (x : V) (H : Hp) (k : Bool) : Prop :=
  match x with
  | .non => k = false
  | .bl b => k = b
  | .int i => k = (i != 0)
  | .str y => y.length ≤ sizeLine ∧ k = ((y.length : Int) != 0)
  | .byt y => y.size ≤ sizeLine ∧ k = ((y.size : Int) != 0)
  | .ref p => (∃ xs, SqL K H p xs ∧ k = !xs.isEmpty) ∨ (∃ xs, SqT K H p xs ∧ k = !xs.isEmpty) ∨ ∃ kvs, H p = some (.dK kvs) ∧ k = !kvs.isEmpty
  | _ => False
theorem isEmpty_kv {κ : Type} {kvs : List (κ × V)} {vs : List (κ × Value)} (r : KV kvs vs) : (!vs.isEmpty) = !kvs.isEmpty := by
  cases r <;> rfl
theorem isEmpty_of {xs : List V} {its : List Value} (r : Vals xs its) : (!its.toArray.isEmpty) = !xs.isEmpty := by
  cases r <;> simp
theorem line63 : (sizeLine : Nat) < 2 ^ 63 := by rw [sizeLine_eq]; decide
theorem tru_ok : TruR X (fun x H Q => ∃ k, TruV X.K x H k ∧ Q k H) := by
  intro pins s σ H x v Q I rx h
  obtain ⟨k, e, q⟩ := h
  have hl := line63
  have hs : sizeLine = 16777216 := sizeLine_eq
  cases x with
  | non =>
    cases rx
    have e' : k = false := e
    subst e'
    exact truthy_none ⟨H, I, q⟩
  | bl b =>
    cases rx
    have e' : k = b := e
    subst e'
    exact wpAny_truthy_bool ⟨H, I, q⟩
  | int i =>
    obtain ⟨t, rfl⟩ := rx
    have e' : k = (i != 0) := e
    subst e'
    exact PySem.P.truthy_int ⟨H, I, q⟩
  | str y =>
    obtain ⟨t, rfl⟩ := rx
    obtain ⟨hy, e'⟩ : y.length ≤ sizeLine ∧ k = ((y.length : Int) != 0) := e
    subst e'
    exact PySem.P.truthy_str (by omega) ⟨H, I.tok _, q⟩
  | byt y =>
    obtain ⟨t, rfl⟩ := rx
    obtain ⟨hy, e'⟩ : y.size ≤ sizeLine ∧ k = ((y.size : Int) != 0) := e
    subst e'
    exact PySem.W.truthy_bytes (by omega) ⟨H, I.tok _, q⟩
  | ref p =>
    cases rx
    have e' : (∃ xs, SqL X.K H p xs ∧ k = !xs.isEmpty) ∨ (∃ xs, SqT X.K H p xs ∧ k = !xs.isEmpty) ∨ ∃ kvs, H p = some (.dK kvs) ∧ k = !kvs.isEmpty := e
    rcases e' with ⟨xs, hx, e'⟩ | ⟨xs, hx, e'⟩ | ⟨kvs, hx, e'⟩
    · subst e'
      obtain ⟨its, r, pl, hz⟩ := I.list hx
      have hlen := r.length
      exact wpAny_truthy_list pl.isList (by simp only [List.size_toArray]; omega) ⟨H, I.tok _, by rw [isEmpty_of r]; exact q⟩
    · subst e'
      obtain ⟨its, r, pl, hz⟩ := I.tuple hx
      have hlen := r.length
      exact truthy_tuple pl (by simp only [List.size_toArray]; omega) ⟨H, I.tok _, by rw [isEmpty_of r]; exact q⟩
    · subst e'
      obtain ⟨hz, hS, vs, r, m⟩ : kvs.length ≤ sizeLine ∧ (p == sysModules) = false ∧ ∃ vs, KV kvs vs ∧ s.heap.DictOf (mixKind X.prog X.w) p vs := I.hok p _ hx
      have hlen : kvs.length = vs.length := Paired.length r
      exact wpAny_truthy_dict hS m (by omega) ⟨H, I.tok _, by rw [isEmpty_kv r]; exact q⟩
  | _ => exact (show False from e).elim
theorem pt_truth (ha : PE X a ta) (he : ∀ whole, isTrue a X.env whole = (do let v ← whole; standAt a.pos; holding [v] (truthy v))) :
    PT X a (fun σ H Q => ta σ H fun x H' => ∃ k, TruV X.K x H' k ∧ Q k H') := by
  intro pins s σ H Q I h
  exact isTrue_plain (thn (ha pins s σ H _ I h) fun v s1 ⟨x, H1, I1, r1, q1⟩ => tru_ok pins s1 σ H1 x v Q I1 r1 q1) (he _)
theorem op_add_str : OpR X (binaryOp .Add) (fun x y H Q => ∃ i j, x = .str i ∧ y = .str j ∧ i.length + j.length ≤ sizeLine ∧ Q (.str (i ++ j)) H) := by
  intro pins s σ H x y v u Q I rx ry h
  obtain ⟨i, j, rfl, rfl, hz, q⟩ := h
  obtain ⟨t, rfl⟩ := rx
  obtain ⟨t', rfl⟩ := ry
  exact add_str (fun t' tk => ⟨.str (i ++ j), H, I.tok _, ⟨_, rfl⟩, q⟩) hz
theorem vals1 {x : V} {us : List Value} (r : Vals [x] us) : ∃ u, us = [u] ∧ RelV x u := by
  cases r with
  | cons r1 r2 => cases r2; exact ⟨_, rfl, r1⟩
theorem vals2 {x y : V} {us : List Value} (r : Vals [x, y] us) : ∃ u w', us = [u, w'] ∧ RelV x u ∧ RelV y w' := by
  cases r with
  | cons r1 r2 =>
    cases r2 with
    | cons r3 r4 => cases r4; exact ⟨_, _, rfl, r1, r3⟩
def LenV (K : PySem.W.Frag) (x : V) (H : Hp) (n : Nat) : Prop :=
  match x with
  | .str y => y.length ≤ sizeLine ∧ n = y.length
  | .byt y => y.size ≤ sizeLine ∧ n = y.size
  | .ref p => (∃ xs, SqL K H p xs ∧ n = xs.length) ∨ ∃ xs, SqT K H p xs ∧ n = xs.length
  | _ => False
theorem call_len : CallR X (.builtin "len") (fun xs H Q => ∃ x n, xs = [x] ∧ LenV X.K x H n ∧ Q (.int n) H) := by
  intro pins s σ H xs us Q I r h
  obtain ⟨x, n, rfl, e, q⟩ := h
  obtain ⟨u, rfl, rx⟩ := vals1 r
  have hl := line63
  have hs : sizeLine = 16777216 := sizeLine_eq
  cases x with
  | str y =>
    obtain ⟨t, rfl⟩ := rx
    obtain ⟨hy, e'⟩ : y.length ≤ sizeLine ∧ n = y.length := e
    subst e'
    exact len_str (by omega) ⟨.int _, H, I.tok _, ⟨_, rfl⟩, q⟩
  | byt y =>
    obtain ⟨t, rfl⟩ := rx
    obtain ⟨hy, e'⟩ : y.size ≤ sizeLine ∧ n = y.size := e
    subst e'
    exact PySem.W.len_bytes (by omega) ⟨.int _, H, I.tok _, ⟨_, rfl⟩, q⟩
  | ref p =>
    cases rx
    have e' : (∃ xs, SqL X.K H p xs ∧ n = xs.length) ∨ ∃ xs, SqT X.K H p xs ∧ n = xs.length := e
    rcases e' with ⟨xs, hx, e'⟩ | ⟨xs, hx, e'⟩
    · subst e'
      obtain ⟨its, r', pl, hz⟩ := I.list hx
      have hlen := r'.length
      exact Calls.call_len_list pl.isList (by simp only [List.size_toArray]; omega) ⟨.int xs.length, H, I.tok _, ⟨_, by simp only [List.size_toArray]; rw [hlen]⟩, q⟩
    · subst e'
      obtain ⟨its, r', pl, hz⟩ := I.tuple hx
      have hlen := r'.length
      exact len_tuple pl (by simp only [List.size_toArray]; omega) ⟨.int xs.length, H, I.tok _, ⟨_, by simp only [List.size_toArray]; rw [hlen]⟩, q⟩
  | _ => exact (show False from e).elim
end
end L2
namespace L2
open PySem PySem.Spec PyProof.Rows
structure ObjM (h : Heap) (x dx C : Addr) (mA : Str → Option Value) : Prop where
  obj : h.get? x = some (PySem.W.instObj C dx)
  ns : h.Ns1 dx mA
  ne : dx ≠ x
theorem lookIn_ns {h : Heap} {dx : Addr} {mA : Str → Option Value} (n : h.Ns1 dx mA) : ∃ od, h.get? dx = some od ∧ ∀ name, PySem.W.lookIn name od = some (mA name) := by
  obtain ⟨o, es, ep, ho, hd, hk, _, hm⟩ := n
  refine ⟨o, ho, fun name => ?_⟩
  have e := hm name
  unfold nsFind findBy at e
  rw [← Array.find?_toList] at e
  unfold PySem.W.lookIn
  rw [hd]
  dsimp only
  split
  · rename_i y q
    rw [q] at e
    exact congrArg some e
  · rename_i q
    rw [q] at e
    have a : es.toList.any (·.refKey) = false := by
      rw [List.any_eq_false]
      intro y hy
      obtain ⟨z, t, hkey⟩ := hk y (Array.mem_toList_iff.mp hy)
      simp [DictEntry.refKey, hkey]
    have a' : ¬ es.toList.any (·.refKey) = true := by rw [a]; exact Bool.false_ne_true
    rw [if_neg a']
    exact congrArg some e
theorem ObjM.look {h : Heap} {x dx C : Addr} {mA : Str → Option Value} (I : ObjM h x dx C mA) : ∃ od, PySem.W.InstAt h x (PySem.W.instObj C dx) C (some od) ∧ ∀ name, PySem.W.lookIn name od = some (mA name) :=
  let ⟨od, ho, hl⟩ := lookIn_ns I.ns
  ⟨od, ⟨I.obj, rfl, rfl, ho⟩, hl⟩
section
variable {prog : Program} {w : World} {A : Around} {E : Value → Shared → Prop} {s : Shared} {K : PySem.W.Frag} {x dx C f : Addr} {mA : Str → Option Value} {name : Str} {v : Value}
theorem get_map {expr : Bool} {Q : Value → Shared → Prop} (X : K.In s.heap) (I : ObjM s.heap x dx C mA) (hg : PySem.W.plainGet K C name = true) (hh : PySem.W.hasDictIn K C = true)
    (ha : PySem.W.findIn K (.ref C) name = some none) (hv : mA name = some v) (hv' : PySem.W.handedIn v = true) (h : Q v { s with toks := s.toks + 1 }) :
    wpAny (model prog w) A (getAttr (.ref x) name expr) Q E s := by
  obtain ⟨od, J, hl⟩ := I.look
  exact PySem.W.get_value X J (PySem.W.plainGet_of hg).1 (PySem.W.findObj_own hh ha rfl (by rw [hl, hv])) hv' h
theorem get_meth {pl : Sem Bool} {Q : Value × List Value → Shared → Prop} (X : K.In s.heap) (I : ObjM s.heap x dx C mA) (hg : PySem.W.plainGet K C name = true)
    (hf : PySem.W.findIn K (.ref C) name = some (some (.ref f))) (ht : PySem.W.isFn K (.ref f) = true) (hv : mA name = none) (h : Q (.ref f, [.ref x]) s) :
    wpAny (model prog w) A (getMethod (.ref x) name pl) Q E s := by
  obtain ⟨od, J, hl⟩ := I.look
  exact PySem.W.method_fn X J (PySem.W.plainGet_of hg).1 (PySem.W.plainGet_of hg).2 hf (beq_iff_eq.mp ht) (by show (PySem.W.lookIn name od).map (·.isSome) = some false; rw [hl, hv]; rfl) h
theorem set_map {ns : List Str} {Q : Unit → Shared → Prop} (X : K.In s.heap) (I : ObjM s.heap x dx C mA)
    (hs : PySem.W.findIn K (.ref C) "__setattr__" = some (some (.builtin "object.__setattr__"))) (hp : PySem.W.plainOver K C = true) (ht : PySem.W.takerIn K C name = some none) (hh : PySem.W.hasDictIn K C = true)
    (hw : PySem.Within mA ns) (hsz : ns.length ≤ sizeLine)
    (h : ∀ h', ObjM h' x dx C (fun y => if y = name then some v else mA y) → Heap.SameBut dx s.heap h' → Q () { s with heap := h', toks := s.toks + 2 }) :
    wpAny (model prog w) A (setAttr (.ref x) name v) Q E s := by
  obtain ⟨od, J, hl⟩ := I.look
  refine PySem.W.set_plain X J hs (PySem.W.osa_open (s := { s with toks := s.toks + 1 }) (r := none) X J hp ht fun b => ?_)
  obtain ⟨cd, hc, hd'⟩ := PySem.W.any_some hh
  have hx : s.heap.get? x = some ⟨.ref C, some dx, .plain, #[]⟩ := I.obj
  refine wpAny_bind (wpAny_pure (wpAny_bind (wpAny_bind (wpAny_loadPart hx (wpAny_bind (PySem.W.Looks.here (s := { s with toks := s.toks + 1 }) (PySem.W.looks_clsIn X hc) ?_))))))
  rw [hd']
  refine wpAny_pure (a := some dx) (wpAny_bind (wpAny_pure (wpAny_bind ?_)))
  refine wpAny_nsSet1 (s := { s with toks := s.toks + 1 }) I.ns fun h' hn2 hs2 => ?_
  obtain ⟨oD, esD, epD, hoD, hdD, hcD⟩ := hn2.count (PySem.Within.cons name v hw)
  refine wpAny_bind (wpAny_lookBehind hoD (by rw [hdD]; exact pastItsLine_dict (Nat.le_trans hcD (by rw [List.length_cons]; omega))) ?_)
  exact wpAny_pure (h _ ⟨(hs2.2 _ (Ne.symm I.ne)).trans I.obj, hn2, I.ne⟩ hs2)
theorem make_map {R : Result → Shared → Prop} {vs : List Value} {kw : List (Str × Value)} (X : K.In s.heap) (hm : PySem.W.makesIn K C = true)
    (hi : PySem.W.findIn K (.ref C) "__init__" = some (some (.ref f))) (hf : PySem.W.typeIn K (.ref f) = some (.type "function"))
    (h : codeAny (model prog w) (A.under (.builtin "type.__call__" ⟨.ref C :: vs, kw⟩)) (.call (.ref f) ⟨.ref (s.heap.objs.size + 1) :: vs, kw⟩) (PySem.W.InitBack (s.heap.objs.size + 1) R)
      { s with heap := (s.heap.push PySem.W.emptyDict).push (PySem.W.instObj C s.heap.objs.size) }) :
    codeAny (model prog w) A (.call (.ref C) ⟨vs, kw⟩) R s := by
  obtain ⟨hh, g, d, t, os⟩ := s
  exact PySem.W.make_core (PySem.W.makes_of X hm) (PySem.W.looks_findIn X hi) (fun self => PySem.W.bind_fn X self hf) (.inl rfl) h
end
def putF (f : Str) (v : V) : List (Str × V) → List (Str × V)
  | [] => [(f, v)]
  | (g, x) :: r => if g = f then (g, v) :: r else (g, x) :: putF f v r
theorem lookup_putF (f g : Str) (v : V) : ∀ fs : List (Str × V), (putF f v fs).lookup g = if g = f then some v else fs.lookup g
  | [] => by
    show List.lookup g [(f, v)] = _
    by_cases h : g = f
    · have hb : (g == f) = true := beq_iff_eq.mpr h
      simp only [List.lookup, hb, if_pos h]
    · have hb : (g == f) = false := beq_eq_false_iff_ne.mpr h
      simp only [List.lookup, hb, if_neg h]
  | (k, x) :: r => by
    have ih := lookup_putF f g v r
    rw [show putF f v ((k, x) :: r) = (if k = f then (k, v) :: r else (k, x) :: putF f v r) from rfl]
    by_cases hk : k = f
    · rw [if_pos hk]
      by_cases h : g = k
      · have hb : (g == k) = true := beq_iff_eq.mpr h
        simp only [List.lookup, hb, if_pos (h.trans hk)]
      · have hb : (g == k) = false := beq_eq_false_iff_ne.mpr h
        simp only [List.lookup, hb, if_neg (fun e : g = f => h (e.trans hk.symm))]
    · rw [if_neg hk]
      by_cases h : g = k
      · have hb : (g == k) = true := beq_iff_eq.mpr h
        simp only [List.lookup, hb, if_neg (fun e : g = f => hk (h.symm.trans e))]
      · have hb : (g == k) = false := beq_eq_false_iff_ne.mpr h
        simp only [List.lookup, hb]
        exact ih
theorem keys_putF (f : Str) (v : V) : ∀ fs : List (Str × V), f ∈ (putF f v fs).map (·.1) ∧ ∀ g, g ∈ fs.map (·.1) → g ∈ (putF f v fs).map (·.1)
  | [] => ⟨by simp [putF], fun g h => by simp at h⟩
  | (k, x) :: r => by
    obtain ⟨i1, i2⟩ := keys_putF f v r
    rw [show putF f v ((k, x) :: r) = (if k = f then (k, v) :: r else (k, x) :: putF f v r) from rfl]
    by_cases hk : k = f
    · rw [if_pos hk]
      subst hk
      exact ⟨by simp, fun g h => by simpa using h⟩
    · rw [if_neg hk]
      refine ⟨?_, fun g h => ?_⟩
      · rw [List.map_cons]
        exact List.mem_cons_of_mem _ i1
      · rw [List.map_cons] at h ⊢
        rcases List.mem_cons.mp h with e | e
        · exact List.mem_cons.mpr (.inl e)
        · exact List.mem_cons_of_mem _ (i2 g e)
theorem length_putF (f : Str) (v : V) : ∀ fs : List (Str × V), (putF f v fs).length ≤ fs.length + 1
  | [] => by simp [putF]
  | (k, x) :: r => by
    have ih := length_putF f v r
    rw [show putF f v ((k, x) :: r) = (if k = f then (k, v) :: r else (k, x) :: putF f v r) from rfl]
    by_cases hk : k = f
    · rw [if_pos hk, List.length_cons, List.length_cons]; omega
    · rw [if_neg hk, List.length_cons, List.length_cons]; omega
theorem RelO.some_of {v : V} {o : Option Value} (r : RelO (some v) o) : ∃ u, o = some u ∧ RelV v u := by
  cases o with
  | none => exact (show False from r).elim
  | some u => exact ⟨u, rfl, r⟩
theorem RelO.none_of {o : Option Value} (r : RelO none o) : o = none := by
  cases o with
  | none => rfl
  | some u => exact (show False from r).elim
theorem handed_of {v : V} {u : Value} (r : RelV v u) : PySem.W.handedIn u = true := by
  cases v with
  | non => cases (show u = Value.none from r); rfl
  | bl b => cases (show u = Value.bool b from r); rfl
  | int i => obtain ⟨t, e⟩ := (show ∃ t, u = Value.int i t from r); cases e; rfl
  | str x => obtain ⟨t, e⟩ := (show ∃ t, u = Value.str x t from r); cases e; rfl
  | byt b => obtain ⟨t, e⟩ := (show ∃ t, u = Value.bytes b t from r); cases e; rfl
  | flt b => obtain ⟨t, e⟩ := (show ∃ t, u = Value.float b t from r); cases e; rfl
  | ref a => cases (show u = Value.ref a from r); rfl
  | ty n => cases (show u = Value.type n from r); rfl
section
variable {P : Program} {w : World} {H H' : Hp} {h h' : Heap} {a C dx : Addr} {fs fs' : List (Str × V)}
theorem ins_get (hok : HOk P w H h) (e : H a = some (.ins C dx fs)) : ∃ mA, ObjM h a dx C mA ∧ (∀ f, RelO (fs.lookup f) (mA f)) ∧ PySem.Within mA (fs.map (·.1)) ∧ fs.length ≤ 1000 ∧ H dx = some (.own a) := by
  obtain ⟨d, z, ne, ob, mA, n, r, q⟩ := (show ObjOk P w H h a (.ins C dx fs) from hok a _ e)
  exact ⟨mA, ⟨ob, n, ne⟩, r, q, z, d⟩
end
structure Cls (K : PySem.W.Frag) (C : Addr) : Prop where
  pg : PySem.W.plainGet K C Str.empty = true
  hd : PySem.W.hasDictIn K C = true
  po : PySem.W.plainOver K C = true
  sa : PySem.W.findIn K (.ref C) "__setattr__" = some (some (.builtin "object.__setattr__"))
theorem Cls.get {K : PySem.W.Frag} {C : Addr} (c : Cls K C) (f : Str) : PySem.W.plainGet K C f = true := c.pg
def NoAttr (K : PySem.W.Frag) (C : Addr) (f : Str) : Prop := PySem.W.findIn K (.ref C) f = some none
theorem NoAttr.taker {K : PySem.W.Frag} {C : Addr} {f : Str} (n : NoAttr K C f) : PySem.W.takerIn K C f = some none := by
  unfold PySem.W.takerIn
  rw [show PySem.W.findIn K (.ref C) f = some none from n]
  rfl
structure Con (K : PySem.W.Frag) (C : Addr) (f : Str) (v : V) (u : Value) : Prop where
  at_ : PySem.W.findIn K (.ref C) f = some (some u)
  rel : RelV v u
  get : PySem.W.specialIn K u "__get__" = some none
  cp : PySem.W.copiedNames.contains f = false
structure Meth (K : PySem.W.Frag) (C : Addr) (m : Str) (f : Addr) : Prop where
  at_ : PySem.W.findIn K (.ref C) m = some (some (.ref f))
  fn : PySem.W.isFn K (.ref f) = true
  kp : PySem.W.keepIn K (.ref f) = true
section
variable {X : Cx} {pins : List (Addr × Obj)} {σ : St} {H : Hp} {s : Shared} {a C dx : Addr} {fs : List (Str × V)} {f : Str} {v : V} {A : Around} {E : Value → Shared → Prop}
theorem getattr_ok {b : Bool} {Q : Value → Shared → Prop} (I : Inv X pins σ H s) (e : H a = some (.ins C dx fs)) (c : Cls X.K C) (n : NoAttr X.K C f) (l : fs.lookup f = some v)
    (h : ∀ u s', Inv X pins σ H s' → RelV v u → Q u s') : wpAny (model X.prog X.w) A (getAttr (.ref a) f b) Q E s := by
  obtain ⟨mA, O, r, _, _, _⟩ := ins_get I.hok e
  obtain ⟨u, hu, ru⟩ := RelO.some_of (v := v) (o := mA f) (by rw [← l]; exact r f)
  exact get_map I.kIn O (c.get f) c.hd n hu (handed_of ru) (h u _ (I.tok _) ru)
theorem getmeth_ok {m : Str} {g : Addr} {pl : Sem Bool} {Q : Value × List Value → Shared → Prop} (I : Inv X pins σ H s) (e : H a = some (.ins C dx fs)) (c : Cls X.K C) (k : Meth X.K C m g) (l : fs.lookup m = none)
    (h : Q (.ref g, [.ref a]) s) : wpAny (model X.prog X.w) A (getMethod (.ref a) m pl) Q E s := by
  obtain ⟨mA, O, r, _, _, _⟩ := ins_get I.hok e
  have hn : mA m = none := RelO.none_of (by rw [← l]; exact r m)
  exact get_meth I.kIn O (c.get m) k.at_ k.fn hn h
theorem setattr_ok {y : V} {u : Value} {Q : Unit → Shared → Prop} (I : Inv X pins σ H s) (e : H a = some (.ins C dx fs)) (c : Cls X.K C) (n : NoAttr X.K C f) (hl : fs.length < 1000) (ry : RelV y u)
    (h : ∀ s', Inv X pins σ (upd H a (.ins C dx (putF f y fs))) s' → Q () s') : wpAny (model X.prog X.w) A (setAttr (.ref a) f u) Q E s := by
  obtain ⟨mA, O, r, wi, _, ho⟩ := ins_get I.hok e
  have hz : (fs.map (·.1)).length ≤ sizeLine := by rw [List.length_map, sizeLine_eq]; omega
  refine set_map I.kIn O c.sa c.po n.taker c.hd wi hz fun h' O' sb => h _ ?_
  have hd : ∃ o, h'.get? dx = some o := let ⟨o, _, _, e', _⟩ := O'.ns; ⟨o, e'⟩
  refine I.write (x := a) (e := dx) (by rw [e]; exact True.intro) (.inr ho) (fun b q hb z => (sb.2 b hb).trans z) hd ?_
  refine ⟨by rw [upd_ne O.ne]; exact ho, ?_, O.ne, O'.obj, _, O'.ns, fun g => ?_, fun g hg => ?_⟩
  · have := length_putF f y fs; omega
  · show RelO ((putF f y fs).lookup g) (if g = f then some u else mA g)
    rw [lookup_putF]
    by_cases q : g = f
    · rw [if_pos q, if_pos q]; exact ry
    · rw [if_neg q, if_neg q]; exact r g
  · by_cases q : g = f
    · rw [q]; exact (keys_putF f y fs).1
    · refine (keys_putF f y fs).2 g (wi g fun z => hg ?_)
      show (if g = f then some u else mA g) = none
      rw [if_neg q]; exact z
theorem Inv.made (I : Inv X pins σ H s) : Inv X pins σ (upd (upd H s.heap.objs.size (.own (s.heap.objs.size + 1))) (s.heap.objs.size + 1) (.ins C s.heap.objs.size []))
    { s with heap := (s.heap.push PySem.W.emptyDict).push (PySem.W.instObj C s.heap.objs.size) } := by
  have e1 : (s.heap.push PySem.W.emptyDict).get? s.heap.objs.size = some PySem.W.emptyDict := Heap.get?_push_size s.heap rfl
  have e2 : ((s.heap.push PySem.W.emptyDict).push (PySem.W.instObj C s.heap.objs.size)).get? (s.heap.objs.size + 1) = some (PySem.W.instObj C s.heap.objs.size) := by
    have := Heap.get?_push_size (s.heap.push PySem.W.emptyDict) (o := PySem.W.instObj C s.heap.objs.size) rfl
    rwa [Heap.size_push] at this
  have e3 : (s.heap.push PySem.W.emptyDict).Ns s.heap.objs.size (fun _ => none) := ⟨PySem.W.emptyDict, #[], _, e1, rfl, (fun e he => absurd he (by simp)), fun _ => rfl⟩
  have I1 := I.laid (a := s.heap.objs.size) (o := .own (s.heap.objs.size + 1)) (h' := s.heap.push PySem.W.emptyDict) (t' := s.toks) (fun b u q => Heap.get?_push_of_some _ q) (Nat.le_refl _) ⟨_, e1⟩
  refine I1.laid (a := s.heap.objs.size + 1) (o := .ins C s.heap.objs.size []) (t' := s.toks) (fun b u q => Heap.get?_push_of_some _ q) (Nat.le_of_eq (Heap.size_push _ _)) ?_
  have ne : s.heap.objs.size ≠ s.heap.objs.size + 1 := Nat.ne_of_lt (Nat.lt_succ_self _)
  refine ⟨by rw [upd_ne ne, upd_same], Nat.zero_le _, ne, e2, fun _ => none, (Heap.Ns1.of_empty e3).at fun o q => Heap.get?_push_of_some _ q, fun _ => True.intro, fun y hy => absurd rfl hy⟩
theorem attr_of {prog : Program} {w : World} {env : Env} {e : Expr} {f : Str} {pos : Pos} {s : Shared} {Q : Value → Shared → Prop} (hb : attributeBase e f env (eval e env) = eval e env)
    (h : wpAny (model prog w) A (eval e env) (fun o s₁ => wpAny (model prog w) A (getAttr o f true) Q E s₁) E s) : wpAny (model prog w) A (eval (.Attribute e f pos) env) Q E s :=
  Attribute_any_ h (by rw [arm_eval_Attribute, hb])
end
def tFld (K : PySem.W.Frag) (ta : TE) (f : Str) : TE := fun σ H Q => ta σ H fun x H1 => ∃ a C dx fs v, x = .ref a ∧ H1 a = some (.ins C dx fs) ∧ Cls K C ∧ NoAttr K C f ∧ fs.lookup f = some v ∧ Q v H1
def sFld (K : PySem.W.Frag) (ta tv : TE) (f : Str) : TS := fun D σ H => tv σ H fun y H1 => ta σ H1 fun x H2 => ∃ a C dx fs, x = .ref a ∧ H2 a = some (.ins C dx fs) ∧ Cls K C ∧ NoAttr K C f ∧ fs.length < 1000 ∧
  D.nx σ (upd H2 a (.ins C dx (putF f y fs)))
section
variable {X : Cx} {o e value : Expr} {f : Str} {pos pos' tpos : Pos} {ta tv : TE}
theorem pe_fld (he : PE X e ta) (hb : attributeBase e f X.env (eval e X.env) = eval e X.env) : PE X (.Attribute e f pos) (tFld X.K ta f) := by
  intro pins s σ H Q I h
  refine attr_of hb (thn (he pins s σ H _ I h) fun u s1 ⟨x, H1, I1, rx, a, C, dx, fs, v, ex, ea, c, n, l, q⟩ => ?_)
  subst ex
  obtain rfl : u = Value.ref a := rx
  exact getattr_ok I1 ea c n l fun u' s2 I2 ru => ⟨v, H1, I2, ru, q⟩
theorem ps_fld (ha : PE X o ta) (hv : PE X value tv) (hs : swapsWith value (some (.Attribute o f pos')) pos.line X.env = pure false) : PS X (.Assign [.Attribute o f pos'] value pos) (sFld X.K ta tv f) := by
  intro pins s σ H D I h
  refine plainObj_wpAny_Assign_Attribute (thn (hv pins s σ H _ I h) fun u s1 ⟨y, H1, I1, ry, q⟩ => thn (ha pins s1 σ H1 _ I1 q) fun ov s2 ⟨x, H2, I2, rx, a, C, dx, fs, ex, ea, c, n, l, q2⟩ => ?_) hs
  subst ex
  obtain rfl : ov = Value.ref a := rx
  exact setattr_ok I2 ea c n l ry fun s3 I3 => ⟨σ, _, I3, q2⟩
end
section
variable {X : Cx} {pins : List (Addr × Obj)} {σ : St} {H : Hp} {s : Shared} {A : Around} {E : Value → Shared → Prop} {Q : Value → Shared → Prop} {c : Value} {b : Bool}
inductive TyOf (K : PySem.W.Frag) (H : Hp) : V → Value → Prop where
  | non : TyOf K H .non (.type "NoneType")
  | bl (x : Bool) : TyOf K H (.bl x) (.type "bool")
  | int (i : Int) : TyOf K H (.int i) (.type "int")
  | str (x : Str) : TyOf K H (.str x) (.type "str")
  | flt (x : UInt64) : TyOf K H (.flt x) (.type "float")
  | lst {a : Addr} {xs : List V} (e : H a = some (.lst xs)) : TyOf K H (.ref a) (.type "list")
  | frz {a : Addr} {o : Obj} {xs : List V} (e : H a = some (.frz o (.lst xs))) : TyOf K H (.ref a) (.type "list")
  | tup {a : Addr} {xs : List V} (e : H a = some (.tup xs)) : TyOf K H (.ref a) (.type "tuple")
  | dK {a : Addr} {kvs : List (Key × V)} (e : H a = some (.dK kvs)) : TyOf K H (.ref a) (.type "dict")
  | dT {a : Addr} {kvs : List (List Key × V)} (e : H a = some (.dT kvs)) : TyOf K H (.ref a) (.type "dict")
  | ins {a C dx : Addr} {fs : List (Str × V)} (e : H a = some (.ins C dx fs)) (cl : Cls K C) (ha : PySem.W.findIn K (.ref C) "__class__" = some (some (.builtin "object.__class__")))
      (hn : PySem.W.specialIn K (.builtin "object.__class__") "__get__" = some (some (.builtin "getset_descriptor.__get__"))) (htk : PySem.W.takesIn K (.builtin "object.__class__") = some true)
      (hm : PySem.W.mroIn K C (.type "object") = some true) : TyOf K H (.ref a) (.ref C)
theorem isinst_ok {x : V} {u t : Value} (I : Inv X pins σ H s) (rx : RelV x u) (ty : TyOf X.K H x t) (e : PySem.W.kitOne X.K t c = some b) (h : ∀ tk, Q (.bool b) { s with toks := tk }) :
    wpAny (model X.prog X.w) A (call (.builtin "isinstance") [u, c]) Q E s := by
  cases ty with
  | non => cases (show u = Value.none from rx); exact PySem.W.kia_one PySem.W.kitx_none I.kIn True.intro e (fun z => nomatch z) h
  | bl y => cases (show u = Value.bool y from rx); exact PySem.W.kia_one PySem.W.kitx_bool I.kIn True.intro e (fun z => nomatch z) h
  | int i => obtain ⟨t, q⟩ := (show ∃ t, u = Value.int i t from rx); cases q; exact PySem.W.kia_one PySem.W.kitx_int I.kIn True.intro e (fun z => nomatch z) h
  | str y => obtain ⟨t, q⟩ := (show ∃ t, u = Value.str y t from rx); cases q; exact PySem.W.kia_one PySem.W.kitx_str I.kIn True.intro e (fun z => nomatch z) h
  | flt y => obtain ⟨t, q⟩ := (show ∃ t, u = Value.float y t from rx); cases q; exact PySem.W.kia_one PySem.W.kitx_float I.kIn True.intro e (fun z => nomatch z) h
  | @lst a xs ea =>
    cases (show u = Value.ref a from rx)
    obtain ⟨_, _, n, _, h1⟩ := (show ObjOk X.prog X.w H s.heap a (.lst xs) from I.hok a _ ea)
    exact PySem.W.kia_one PySem.W.kitx_list I.kIn ⟨_, h1, rfl⟩ e (fun z => nomatch z) h
  | @frz a ob xs ea =>
    cases (show u = Value.ref a from rx)
    obtain ⟨_, _, _, n, _, h1⟩ := (show ObjOk X.prog X.w H s.heap a (.frz ob (.lst xs)) from I.hok a _ ea)
    exact PySem.W.kia_one PySem.W.kitx_list I.kIn ⟨_, h1, rfl⟩ e (fun z => nomatch z) h
  | @tup a xs ea =>
    cases (show u = Value.ref a from rx)
    obtain ⟨_, _, _, p⟩ := (show ObjOk X.prog X.w H s.heap a (.tup xs) from I.hok a _ ea)
    obtain ⟨o, h1, h2, _⟩ := p
    exact PySem.W.kia_one PySem.W.kitx_tuple I.kIn ⟨o, h1, h2⟩ e (fun z => nomatch z) h
  | @dK a kvs ea =>
    cases (show u = Value.ref a from rx)
    obtain ⟨_, _, vs, _, p⟩ := (show ObjOk X.prog X.w H s.heap a (.dK kvs) from I.hok a _ ea)
    obtain ⟨o, es, ep, h1, h2, _⟩ := p
    exact PySem.W.kia_one PySem.W.kitx_dict I.kIn ⟨o, h1, h2.1⟩ e (fun z => nomatch z) h
  | @dT a kvs ea =>
    cases (show u = Value.ref a from rx)
    obtain ⟨_, _, xs, _, o, es, ep, h1, h2, _⟩ := (show ObjOk X.prog X.w H s.heap a (.dT kvs) from I.hok a _ ea)
    exact PySem.W.kia_one PySem.W.kitx_dict I.kIn ⟨o, h1, h2.1⟩ e (fun z => nomatch z) h
  | @ins a C dx fs ea cl ha hn htk hm =>
    cases (show u = Value.ref a from rx)
    obtain ⟨mA, O, _⟩ := ins_get I.hok ea
    obtain ⟨od, J, _⟩ := O.look
    exact PySem.W.kia_one (PySem.W.kitx_own (cl.get _) cl.hd ha hn htk hm) I.kIn J e (fun z => nomatch z) h
end
end L2
namespace L2
open PySem PySem.Spec PyProof.Rows
structure Room (k : Nat) (A : Around) : Prop where
  hd : A.handled = none
  dp : A.depth + 3 * k + 5 < recursionLimit
  un : A.units + 16 * k + 200 < cLine
theorem Room.mono {j k : Nat} {A : Around} (r : Room k A) (h : j ≤ k) : Room j A := ⟨r.hd, by have := r.dp; omega, by have := r.un; omega⟩
theorem Room.deeper {k : Nat} {A : Around} (r : Room (k + 1) A) (env : Env) : Room k (A.deeper env) :=
  ⟨r.hd, by have := r.dp; show A.depth + 1 + 3 * k + 5 < _; omega, by have := r.un; show A.units + 3 + 16 * k + 200 < _; omega⟩
theorem make_depth {A : Around} {C : Addr} {us : List Value} {kw : List (Str × Value)} : (A.under (.builtin "type.__call__" ⟨.ref C :: us, kw⟩)).depth = A.depth + 1 := by
  first | rfl | simp [Around.under, Code.weight, Code.isCreation, Code.isGuard, Code.isCaller, Code.frames, Code.isFrame, guardIds]
theorem make_units {A : Around} {C : Addr} {us : List Value} {kw : List (Str × Value)} : (A.under (.builtin "type.__call__" ⟨.ref C :: us, kw⟩)).units = A.units + 1 := by
  first | rfl | simp [Around.under, Code.cUnits, Code.frames, Code.isFrame]
theorem Room.make {k : Nat} {A : Around} (r : Room (k + 1) A) (C : Addr) (us : List Value) (kw : List (Str × Value)) : Room k (A.under (.builtin "type.__call__" ⟨.ref C :: us, kw⟩)) :=
  ⟨r.hd, by have := r.dp; rw [make_depth]; omega, by have := r.un; rw [make_units]; omega⟩
theorem Room.depth {k : Nat} {A : Around} (r : Room k A) : A.depth < recursionLimit := by have := r.dp; omega
theorem Room.units {k : Nat} {A : Around} (r : Room k A) : A.units + 64 < cLine := by have := r.un; omega
def tNil : TA := fun _ H Q => Q [] H
def tCons (ta : TE) (tr : TA) : TA := fun σ H Q => ta σ H fun x H1 => tr σ H1 fun xs H2 => Q (x :: xs) H2
section
variable {X : Cx} {e : Expr} {es : List Expr} {te : TE} {t : TA} {pos : Pos}
theorem pa_nil : PA X [] tNil := fun _ _ _ _ H Q I h => Calls.spliced_nil ⟨[], H, I, .nil, h⟩
theorem pa_cons (ha : PE X e te) (hr : PA X es t) (hs : starEach (e :: es) X.env = (false, eval e X.env) :: starEach es X.env := by rfl) : PA X (e :: es) (tCons te t) := by
  intro pos pins s σ H Q I h
  rw [hs]
  show wpAny _ _ (spliced ((false, eval e X.env) :: backTo pos (starEach es X.env))) _ _ s
  refine Calls.spliced_cons (thn (ha pins s σ H _ I h) fun u s1 ⟨x, H1, I1, r1, q1⟩ => ?_)
  exact thn (hr pos pins s1 σ H1 _ I1 q1) fun us s2 ⟨xs, H2, I2, r2, q2⟩ => ⟨x :: xs, H2, I2, .cons r1 r2, q2⟩
def tTup (t : TA) : TE := fun σ H Q => t σ H fun xs H1 => xs.length ≤ sizeLine ∧ ∀ p, H1 p = none → Q (.ref p) (upd H1 p (.tup xs))
def tLst (t : TA) : TE := fun σ H Q => t σ H fun xs H1 => xs.length ≤ sizeLine ∧ ∀ p, H1 p = none → Q (.ref p) (upd H1 p (.lst xs))
theorem pe_tup {x1} (h : PA X es t) : PE X (.Tuple es x1 pos) (tTup t) := by
  intro pins s σ H Q I hq
  refine wpAny_Tuple_spliced (thn (h pos pins s σ H _ I hq) fun us s1 ⟨xs, H1, I1, r, z, q⟩ => ⟨by rw [← r.length]; exact z, ?_⟩)
  have hf : H1 s1.heap.objs.size = none := I1.hok.fresh (Nat.le_refl _)
  refine ⟨.ref s1.heap.objs.size, upd H1 s1.heap.objs.size (.tup xs), I1.laid (t' := s1.toks) (fun b u e => Heap.get?_push_of_some _ e) (Nat.le_refl _) ?_, rfl, q _ hf⟩
  exact ⟨z, us, r, ⟨_, Heap.get?_push_size _ rfl, rfl, _, rfl⟩⟩
theorem pe_lst (h : PA X es t) : PE X (.List es pos) (tLst t) := by
  intro pins s σ H Q I hq
  refine wpAny_List_spliced (thn (h pos pins s σ H _ I hq) fun us s1 ⟨xs, H1, I1, r, z, q⟩ => ⟨by rw [← r.length]; exact z, ?_⟩)
  have hf : H1 s1.heap.objs.size = none := I1.hok.fresh (Nat.le_refl _)
  refine ⟨.ref s1.heap.objs.size, upd H1 s1.heap.objs.size (.lst xs), I1.laid (t' := s1.toks) (fun b u e => Heap.get?_push_of_some _ e) (Nat.le_refl _) ?_, rfl, q _ hf⟩
  exact ⟨z, us, 0, r, Heap.get?_push_size _ rfl⟩
end
abbrev Sp := List V → Hp → VK → XK → Prop
abbrev CXT := List Env → Hp → Shared → XK → Value → Shared → Prop
structure Env0 (P : Program) (w : World) (K : PySem.W.Frag) (mg : Str → Option Value) (base : Heap) (A : Around) (outer : List Env) (s : Shared) (H : Hp) : Prop where
  frames : A.frames = some outer
  mod : Mod K mg base
  bs : ∀ b o, base.get? b = some o → s.heap.get? b = some o ∧ H b = none
  bsz : base.objs.size ≤ s.heap.objs.size
  funs : s.heap.FunFrames base outer
  frf : ∀ b ∈ frs outer, H b = none
  hok : HOk P w H s.heap
  bare : AllBare s.gens
def CE (outer : List Env) (P : Program) (w : World) (H : Hp) (s : Shared) (Q : VK) (u : Value) (s' : Shared) : Prop :=
  ∃ v H', s'.os = s.os ∧ AllBare s'.gens ∧ Un (frs outer) [] H H' s.heap s'.heap ∧ HOk P w H' s'.heap ∧ RelV v u ∧ Q v H'
def CR (CX : CXT) (outer : List Env) (P : Program) (w : World) (H : Hp) (s : Shared) (Q : VK) (E : XK) (r : Result) (s' : Shared) : Prop :=
  match r with
  | .ok (.ret u) => CE outer P w H s Q u s'
  | .ok _ => False
  | .error e => CX outer H s E e s'
structure FnOk (P : Program) (w : World) (K : PySem.W.Frag) (mg : Str → Option Value) (base : Heap) (CX : CXT) (k : Nat) (f : Addr) (fd : FuncData) (ps : List Str) (sp : Sp) : Prop where
  len : ∀ vs H Q E, sp vs H Q E → vs.length = ps.length
  run : ∀ (A : Around) (outer : List Env) (s : Shared) (H : Hp) (args : Args) (us : List Value) (vs : List V) (Q : VK) (E : XK), Room k A → Env0 P w K mg base A outer s H → BindsTo s fd args (ps.zip us) → Vals vs us → sp vs H Q E →
    codeAny (model P w) A (.call (.ref f) args) (CR CX outer P w H s Q E) s
theorem FnOk.imp {P : Program} {w : World} {K : PySem.W.Frag} {mg : Str → Option Value} {base : Heap} {CX : CXT} {k : Nat} {f : Addr} {fd : FuncData} {ps : List Str} {sp sp' : Sp} (F : FnOk P w K mg base CX k f fd ps sp)
    (h : ∀ vs H Q E, sp' vs H Q E → sp vs H Q E) : FnOk P w K mg base CX k f fd ps sp' :=
  ⟨fun vs H Q E q => F.len vs H Q E (h _ _ _ _ q), fun A outer s H args us vs Q E hr he hb hv hs => F.run A outer s H args us vs Q E hr he hb hv (h _ _ _ _ hs)⟩
theorem Env0.make {P : Program} {w : World} {K : PySem.W.Frag} {mg : Str → Option Value} {base : Heap} {A : Around} {outer : List Env} {s : Shared} {H : Hp} (e : Env0 P w K mg base A outer s H) (C : Addr) (us : List Value) (kw : List (Str × Value)) :
    Env0 P w K mg base (A.under (.builtin "type.__call__" ⟨.ref C :: us, kw⟩)) outer s H := ⟨by first | exact e.frames | (simpa [Around.under, Code.envs, Code.isFrame, pushEnvs] using e.frames), e.mod, e.bs, e.bsz, e.funs, e.frf, e.hok, e.bare⟩
section
variable {X : Cx} {pins : List (Addr × Obj)} {σ : St} {H : Hp} {s s' : Shared}
theorem Inv.env0 (I : Inv X pins σ H s) : Env0 X.prog X.w X.K X.mg X.base X.A X.stack s H :=
  ⟨I.ok.frames, I.ok.mod, I.bs, Nat.le_trans I.ok.bsz I.sz, I.stack, I.stkFree, I.hok, I.bare⟩
theorem Inv.after {Q : VK} {u : Value} (I : Inv X pins σ H s) (h : CE X.stack X.prog X.w H s Q u s') : EP X pins σ Q u s' := by
  obtain ⟨v, H', os, bare, un, hok, r, q⟩ := h
  obtain ⟨hh, g, d, t, os'⟩ := s'
  obtain rfl : os' = s.os := os
  exact ⟨v, H', I.call (h' := hh) (g' := g) (d' := d) (t' := t) (ch := []) un hok bare (fun b z => absurd z (by simp)), r, q⟩
end
def tCall (sp : Sp) (dvs : List V) (E : XK) (t : TA) : TE := fun σ H Q => t σ H fun vs H1 => sp (vs ++ dvs) H1 Q E
def tMeth (C : Addr) (m : Str) (sp : Sp) (dvs : List V) (E : XK) (ta : TE) (t : TA) : TE := fun σ H Q => ta σ H fun x H1 => ∃ a dx fs, x = .ref a ∧ H1 a = some (.ins C dx fs) ∧ fs.lookup m = none ∧
  t σ H1 fun vs H2 => sp (x :: (vs ++ dvs)) H2 Q E
def tMake (C : Addr) (sp : Sp) (dvs : List V) (E : XK) (t : TA) : TE := fun σ H Q => t σ H fun vs H1 => ∀ x dx, H1 x = none → H1 dx = none → dx ≠ x →
  sp (.ref x :: (vs ++ dvs)) (upd (upd H1 dx (.own x)) x (.ins C dx [])) (fun v H2 => v = .non ∧ Q (.ref x) H2) E
def Binds (K : PySem.W.Frag) (fd : FuncData) (ps : List Str) (ds : List Value) : Prop :=
  ∀ (s : Shared) (us : List Value), K.In s.heap → (us ++ ds).length = ps.length → BindsTo s fd ⟨us, []⟩ (ps.zip (us ++ ds))
theorem Binds.all {K : PySem.W.Frag} {fd : FuncData} {ps : List Str} (h : ∀ us : List Value, us.length = ps.length → bindArgs fd ⟨us, []⟩ = pure (ps.zip us)) : Binds K fd ps [] := fun s us _ hl => by
  rw [List.append_nil] at hl ⊢
  exact .of_eq (h us hl)
def Passes (CX : CXT) (X : Cx) (E : XK) : Prop := ∀ (pins : List (Addr × Obj)) (σ : St) (H : Hp) (s : Shared) (e : Value) (s' : Shared), Inv X pins σ H s → CX X.stack H s E e s' → X.xe e s'
section
variable {X : Cx} {CX : CXT} {k : Nat} {f C : Addr} {fd : FuncData} {ps : List Str} {sp : Sp} {dvs : List V} {ds : List Value} {E : XK} {x m : Str} {p pos apos : Pos} {e o : Expr} {es : List Expr} {ta : TE} {t : TA}
theorem run_fn {pins : List (Addr × Obj)} {σ : St} {H : Hp} {s : Shared} {Q : VK} {us : List Value} {vs : List V} (F : FnOk X.prog X.w X.K X.mg X.base CX k f fd ps sp) (hr : Room k X.A) (hb : Binds X.K fd ps ds) (hd : Vals dvs ds) (hx : Passes CX X E)
    (I : Inv X pins σ H s) (r : Vals vs us) (h : sp (vs ++ dvs) H Q E) : wpAny (model X.prog X.w) X.A (call (.ref f) us) (EP X pins σ Q) X.xe s := by
  have r2 : Vals (vs ++ dvs) (us ++ ds) := r.append hd
  have hl : (us ++ ds).length = ps.length := by rw [← r2.length]; exact F.len _ _ _ _ h
  refine wpAny_call (codeAny_mono (F.run X.A X.stack s H ⟨us, []⟩ (us ++ ds) (vs ++ dvs) Q E hr I.env0 (hb s us I.kIn hl) r2 h) fun r s' hq => ?_)
  cases r with
  | error e => exact hx pins σ H s e s' I hq
  | ok fl =>
    cases fl with
    | ret u => exact I.after hq
    | next => exact False.elim hq
    | brk => exact False.elim hq
    | cont => exact False.elim hq
theorem pe_call (F : FnOk X.prog X.w X.K X.mg X.base CX k f fd ps sp) (hr : Room k X.A) (hg : Gl X x) (hm : X.mg x = some (.ref f)) (hk : PySem.W.keepIn X.K (.ref f) = true) (hb : Binds X.K fd ps ds) (hd : Vals dvs ds) (hx : Passes CX X E)
    (ha : PA X (e :: es) t) (hdb : (x == ("__debug__" : Str)) = false := by decide) (he : starEach (e :: es) X.env = (false, eval e X.env) :: starEach es X.env := by rfl) (hpl : (backTo pos (starEach es X.env)).any (·.1) = false := by rfl) :
    PE X (.Call (.Name x p) (e :: es) [] pos) (tCall sp dvs E t) := by
  intro pins s σ H Q I h
  refine wpAny_Call_Name_kw (ld_glob I hg hm ?_ hdb)
  refine PySem.W.callWith_K (h₀ := X.base) I.ok.mod.kin hk (thn (ha pos pins s σ H _ I h) fun us s1 ⟨vs, H1, I1, r, q⟩ => ⟨I1.kIn, ?_⟩) he hpl
  exact run_fn F hr hb hd hx I1 r q
theorem pe_meth {pl : Sem Bool} (he : PE X o ta) (c : Cls X.K C) (hm : Meth X.K C m f) (F : FnOk X.prog X.w X.K X.mg X.base CX k f fd ps sp) (hr : Room k X.A) (hb : Binds X.K fd ps ds) (hd : Vals dvs ds) (hx : Passes CX X E) (ha : PA X (e :: es) t)
    (hst : starEach (e :: es) X.env = (false, eval e X.env) :: starEach es X.env := by rfl) (hpl : (backTo pos (starEach es X.env)).any (·.1) = false := by rfl)
    (ht : eval (.Call (.Attribute o m apos) (e :: es) [] pos) X.env = (do
      let ov ← eval o X.env
      standAt apos.atName
      let (f, first) ← holding [ov] (getMethod ov m pl)
      callWith pos f first (backTo pos (starEach (e :: es) X.env)) (backToKw pos (keywordEach [] X.env))) := by rfl) :
    PE X (.Call (.Attribute o m apos) (e :: es) [] pos) (tMeth C m sp dvs E ta t) := by
  intro pins s σ H Q I h
  refine PySem.W.methodCall_KW (pl := pl) (thn (he pins s σ H _ I h) fun u s1 ⟨x, H1, I1, rx, a, dx, fs, ex, ea, l, q⟩ => ?_) ht
  subst ex
  obtain rfl : u = Value.ref a := rx
  refine getmeth_ok I1 ea c hm l ?_
  refine PySem.W.callWith_K (first := [.ref a]) (h₀ := X.base) I.ok.mod.kin hm.kp (thn (ha pos pins s1 σ H1 _ I1 q) fun us s2 ⟨vs, H2, I2, r, q2⟩ => ⟨I2.kIn, ?_⟩) hst hpl
  exact run_fn (us := .ref a :: us) (vs := .ref a :: vs) F hr hb hd hx I2 (.cons rfl r) q2
theorem pe_meth0 {pl : Sem Bool} (he : PE X o ta) (c : Cls X.K C) (hm : Meth X.K C m f) (F : FnOk X.prog X.w X.K X.mg X.base CX k f fd ps sp) (hr : Room k X.A) (hb : Binds X.K fd ps ds) (hd : Vals dvs ds) (hx : Passes CX X E)
    (ht : eval (.Call (.Attribute o m apos) [] [] pos) X.env = (do
      let ov ← eval o X.env
      standAt apos.atName
      let (f, first) ← holding [ov] (getMethod ov m pl)
      callWith pos f first (backTo pos (starEach [] X.env)) (backToKw pos (keywordEach [] X.env))) := by rfl) :
    PE X (.Call (.Attribute o m apos) [] [] pos) (tMeth C m sp dvs E ta tNil) := by
  intro pins s σ H Q I h
  refine PySem.W.methodCall_KW (pl := pl) (thn (he pins s σ H _ I h) fun u s1 ⟨x, H1, I1, rx, a, dx, fs, ex, ea, l, q⟩ => ?_) ht
  subst ex
  obtain rfl : u = Value.ref a := rx
  refine getmeth_ok I1 ea c hm l ?_
  exact PySem.W.callWith_K0 (first := [.ref a]) I1.kIn hm.kp (run_fn (us := [.ref a]) (vs := [.ref a]) F hr hb hd hx I1 (.cons rfl .nil) q)
structure Mk (K : PySem.W.Frag) (C f : Addr) : Prop where
  makes : PySem.W.makesIn K C = true
  init : PySem.W.findIn K (.ref C) "__init__" = some (some (.ref f))
  fn : PySem.W.isFn K (.ref f) = true
  kp : PySem.W.keepIn K (.ref C) = true
theorem run_make {pins : List (Addr × Obj)} {σ : St} {H : Hp} {s : Shared} {Q : VK} {us : List Value} {vs : List V} (M : Mk X.K C f) (F : FnOk X.prog X.w X.K X.mg X.base CX k f fd ps sp) (hr : Room (k + 1) X.A) (hb : Binds X.K fd ps ds) (hd : Vals dvs ds)
    (hx : Passes CX X E) (I : Inv X pins σ H s) (r : Vals vs us)
    (h : ∀ x dx, H x = none → H dx = none → dx ≠ x → sp (.ref x :: (vs ++ dvs)) (upd (upd H dx (.own x)) x (.ins C dx [])) (fun v H2 => v = .non ∧ Q (.ref x) H2) E) :
    wpAny (model X.prog X.w) X.A (call (.ref C) us) (EP X pins σ Q) X.xe s := by
  have hq := h (s.heap.objs.size + 1) s.heap.objs.size (I.hok.fresh (Nat.le_succ _)) (I.hok.fresh (Nat.le_refl _)) (Nat.ne_of_lt (Nat.lt_succ_self _))
  have I2 := Inv.made (C := C) I
  have r2 : Vals (V.ref (s.heap.objs.size + 1) :: (vs ++ dvs)) (Value.ref (s.heap.objs.size + 1) :: (us ++ ds)) := .cons rfl (r.append hd)
  have hl : (Value.ref (s.heap.objs.size + 1) :: us ++ ds).length = ps.length := by
    have e := r2.length
    rw [F.len _ _ _ _ hq] at e
    exact e.symm
  refine wpAny_call (make_map (f := f) I.kIn M.makes M.init (beq_iff_eq.mp M.fn) (codeAny_mono (F.run _ X.stack _ _ ⟨Value.ref (s.heap.objs.size + 1) :: us, []⟩ (Value.ref (s.heap.objs.size + 1) :: (us ++ ds)) _ _ E (hr.make C us [])
    (I2.env0.make C us []) (hb _ (Value.ref (s.heap.objs.size + 1) :: us) I2.kIn hl) r2 hq) fun r s' hq' => ?_))
  cases r with
  | error e => exact hx pins σ _ _ e s' I2 hq'
  | ok fl =>
    cases fl with
    | ret u =>
      obtain ⟨v, H', I3, rv, ev, q3⟩ := I2.after hq'
      subst ev
      exact ⟨rv, ⟨V.ref (s.heap.objs.size + 1), H', I3, rfl, q3⟩⟩
    | next => exact False.elim hq'
    | brk => exact False.elim hq'
    | cont => exact False.elim hq'
theorem pe_make (M : Mk X.K C f) (F : FnOk X.prog X.w X.K X.mg X.base CX k f fd ps sp) (hr : Room (k + 1) X.A) (hg : Gl X x) (hm : X.mg x = some (.ref C)) (hb : Binds X.K fd ps ds) (hd : Vals dvs ds) (hx : Passes CX X E)
    (ha : PA X (e :: es) t) (hdb : (x == ("__debug__" : Str)) = false := by decide) (he : starEach (e :: es) X.env = (false, eval e X.env) :: starEach es X.env := by rfl) (hpl : (backTo pos (starEach es X.env)).any (·.1) = false := by rfl) :
    PE X (.Call (.Name x p) (e :: es) [] pos) (tMake C sp dvs E t) := by
  intro pins s σ H Q I h
  refine wpAny_Call_Name_kw (ld_glob I hg hm ?_ hdb)
  refine PySem.W.callWith_K (h₀ := X.base) I.ok.mod.kin M.kp (thn (ha pos pins s σ H _ I h) fun us s1 ⟨vs, H1, I1, r, q⟩ => ⟨I1.kIn, ?_⟩) he hpl
  exact run_make M F hr hb hd hx I1 r q
theorem pe_make0 (M : Mk X.K C f) (F : FnOk X.prog X.w X.K X.mg X.base CX k f fd ps sp) (hr : Room (k + 1) X.A) (hg : Gl X x) (hm : X.mg x = some (.ref C)) (hb : Binds X.K fd ps ds) (hd : Vals dvs ds) (hx : Passes CX X E)
    (hdb : (x == ("__debug__" : Str)) = false := by decide) : PE X (.Call (.Name x p) [] [] pos) (tMake C sp dvs E tNil) := by
  intro pins s σ H Q I h
  refine wpAny_Call_Name_kw (ld_glob I hg hm ?_ hdb)
  exact PySem.W.callWith_K0 I.kIn M.kp (run_make (us := []) M F hr hb hd hx I .nil h)
end
section
variable {X : Cx} {CX : CXT} {k : Nat} {f C : Addr} {fd : FuncData} {ps ks : List Str} {sp : Sp} {E : XK} {x m : Str} {p pos apos kpos : Pos} {e o : Expr} {es : List Expr} {kws : List Keyword} {te ta : TE} {t tk : TA} {nm : Option Str}
structure KBinds (K : PySem.W.Frag) (fd : FuncData) (ps ks : List Str) (g : List Value → List Value → List Value) (gV : List V → List V → List V) : Prop where
  to : ∀ (s : Shared) (us ws : List Value), K.In s.heap → (g us ws).length = ps.length → BindsTo s fd ⟨us, ks.zip ws⟩ (ps.zip (g us ws))
  rel : ∀ {vs : List V} {us : List Value} {zs : List V} {ws : List Value}, Vals vs us → Vals zs ws → Vals (gV vs zs) (g us ws)
variable {g : List Value → List Value → List Value} {gV : List V → List V → List V}
end
structure FnScope (N P : List Str) (sc : Scope) : Prop where
  kind : sc.kind = .function
  co : sc.isCoroutine = false
  gen : sc.isGenerator = false
  nd : N.Nodup
  pre : N.take P.length = P
  par : ∀ x ∈ P, sc.names.lookup x = some .local ∨ sc.names.lookup x = some .cell
  nofree : ∀ y ∈ sc.names, y.2 ≠ .free
theorem bindL_out {kindOf : Str → Option NameKind} {x : Str} : ∀ {binds : List (Str × Value)} {m : Str → Option Value}, (∀ v, (x, v) ∉ binds) → bindL kindOf binds m x = m x
  | [], _, _ => rfl
  | (n, v) :: r, m, h => by
    unfold bindL
    rw [bindL_out fun w hw => h w (List.mem_cons_of_mem _ hw)]
    split
    · have : x ≠ n := by rintro rfl; exact h v List.mem_cons_self
      simp [this]
    · rfl
theorem bindC_out {kindOf : Str → Option NameKind} {x : Str} : ∀ {binds : List (Str × Value)} {m : Str → Option Value}, (∀ v, (x, v) ∉ binds) → bindC kindOf binds m x = m x
  | [], _, _ => rfl
  | (n, v) :: r, m, h => by
    unfold bindC
    rw [bindC_out fun w hw => h w (List.mem_cons_of_mem _ hw)]
    split
    · rfl
    · have : x ≠ n := by rintro rfl; exact h v List.mem_cons_self
      simp [this]
theorem bindL_get {kindOf : Str → Option NameKind} {x : Str} {v : Value} : ∀ {P : List Str} {vs : List Value} {i : Nat} {m : Str → Option Value}, P.Nodup → P[i]? = some x → vs[i]? = some v → kindOf x = some .local →
    bindL kindOf (P.zip vs) m x = some v
  | [], _, _, _, _, h, _, _ => by simp at h
  | _ :: _, [], _, _, _, _, h, _ => by simp at h
  | p :: P, w :: vs, 0, m, nd, h1, h2, hk => by
    simp at h1 h2; subst h1; subst h2
    show bindL kindOf ((p, w) :: P.zip vs) m p = _
    unfold bindL
    rw [bindL_out fun v hv => (List.nodup_cons.mp nd).1 (List.of_mem_zip hv).1, if_pos hk]
    simp
  | p :: P, w :: vs, i + 1, m, nd, h1, h2, hk => by
    show bindL kindOf ((p, w) :: P.zip vs) m x = _
    unfold bindL
    exact bindL_get (i := i) (List.nodup_cons.mp nd).2 (by simpa using h1) (by simpa using h2) hk
theorem bindC_get {kindOf : Str → Option NameKind} {x : Str} {v : Value} : ∀ {P : List Str} {vs : List Value} {i : Nat} {m : Str → Option Value}, P.Nodup → P[i]? = some x → vs[i]? = some v → kindOf x ≠ some .local →
    bindC kindOf (P.zip vs) m x = some v
  | [], _, _, _, _, h, _, _ => by simp at h
  | _ :: _, [], _, _, _, _, h, _ => by simp at h
  | p :: P, w :: vs, 0, m, nd, h1, h2, hk => by
    simp at h1 h2; subst h1; subst h2
    show bindC kindOf ((p, w) :: P.zip vs) m p = _
    unfold bindC
    rw [bindC_out fun v hv => (List.nodup_cons.mp nd).1 (List.of_mem_zip hv).1, if_neg hk]
    simp
  | p :: P, w :: vs, i + 1, m, nd, h1, h2, hk => by
    show bindC kindOf ((p, w) :: P.zip vs) m x = _
    unfold bindC
    exact bindC_get (i := i) (List.nodup_cons.mp nd).2 (by simpa using h1) (by simpa using h2) hk
def start (N : List Str) (vs : List V) : St := vs.map some ++ List.replicate (N.length - vs.length) none
def cxOf (CX : CXT) (P : Program) (w : World) (K : PySem.W.Frag) (mg : Str → Option Value) (base : Heap) (N : List Str) (qual : Str) (scope : Scope) (f : Addr) (cd : Value) (A : Around) (outer : List Env) (s : Shared) (H : Hp) (E : XK) : Cx where
  prog := P
  w := w
  K := K
  mg := mg
  base := base
  A := A.deeper (envOfC qual scope s.heap.objs.size f cd)
  N := N
  s₀ := s
  H₀ := H
  env := envOfC qual scope s.heap.objs.size f cd
  outer := outer
  stack := envOfC qual scope s.heap.objs.size f cd :: outer
  ex := []
  calm := true
  fn := fun _ => true
  pn := []
  xe := fun e s' => wpAny (model P w) (A.deeper (envOfC qual scope s.heap.objs.size f cd)) (leaving (envOfC qual scope s.heap.objs.size f cd) e) (fun _ s'' => CX outer H s E e s'') (fun e' s'' => CX outer H s E e' s'') s'
theorem cell_has {sc : Scope} {n : Nat} {x : Str} (h : sc.names.lookup x = some .cell) : ∃ c, (cellsFrom n sc.names []).lookup x = some c := by
  have q := PySem.W.cellsFrom_some sc.names n [] (.inl h)
  exact Option.isSome_iff_exists.mp q
theorem inv_start {CX : CXT} {P : Program} {w : World} {K : PySem.W.Frag} {mg : Str → Option Value} {base : Heap} {N ps : List Str} {qual : Str} {scope : Scope} {f : Addr} {cd : Value} {A : Around} {outer : List Env} {s s1 : Shared} {H : Hp} {E : XK} {us : List Value} {vs : List V}
    (S : FnScope N ps scope) (hd : A.handled = none) (e0 : Env0 P w K mg base A outer s H) (hl : vs.length = ps.length) (r : Vals vs us)
    (x : InCallC s s.heap.objs.size (bindL (envOfC qual scope s.heap.objs.size f cd).kindOf (ps.zip us) fun _ => none) (cellsFrom (s.heap.objs.size + 1) scope.names []) (bindC (envOfC qual scope s.heap.objs.size f cd).kindOf (ps.zip us) fun _ => none) s1) :
    Inv (cxOf CX P w K mg base N qual scope f cd A outer s H E) [] (start N vs) H s1 := by
  have hpl : ps.length ≤ N.length := by have := congrArg List.length S.pre; rw [List.length_take] at this; omega
  obtain ⟨h1, tk, rfl, hk⟩ := x.done
  have noA : ∀ b : Addr, b ∉ (cxOf CX P w K mg base N qual scope f cd A outer s H E).ex := fun b z => absurd (show b ∈ ([] : List Addr) from z) (by simp)
  refine ⟨⟨e0.mod, S.kind, rfl, rfl, Nat.le_refl _, fun y z c h1 h2 => ?_, fun y hy => ?_, fun y c _ h => ?_, fun _ => hd, Around.frames_deeper e0.frames, .inr ⟨rfl, rfl⟩, fun b z => absurd z (noA b), e0.bs, e0.bsz, fun b _ _ => noA b, fun b z => absurd z (noA b), e0.funs, e0.frf⟩,
    rfl, e0.bare, Un.kept hk, ⟨_, x.toInCall.ns, fun i y v h1 h2 h3 => ?_⟩, fun y c h => ⟨_, x.cell y c h⟩, e0.hok.fresh (Nat.le_refl _), fun y c h => ?_, fun p hp => absurd (show p ∈ ([] : List (Addr × Obj)) from hp) (by simp), e0.hok.kept hk, ?_⟩
  · exact name_of_addr x.apart (PySem.mem_of_lookup h1) (PySem.mem_of_lookup h2)
  · have hy : scope.names.lookup y = some .cell ∨ scope.names.lookup y = some .free := hy
    rcases hy with hy | hy
    · exact cell_has hy
    · exact absurd rfl (S.nofree _ (PySem.mem_of_lookup hy))
  · exact Nat.le_of_lt (x.above y c (PySem.mem_of_lookup h))
  · have hi : i < vs.length := by
      unfold start at h2
      by_cases hi : i < vs.length
      · exact hi
      · rw [List.getElem?_append_right (by simpa using hi)] at h2
        rw [List.getElem?_replicate] at h2
        split at h2 <;> cases h2
    have ha : vs[i]? = some v := by
      unfold start at h2
      rw [List.getElem?_append_left (by simpa using hi), List.getElem?_map] at h2
      cases e : vs[i]? with
      | none => rw [e] at h2; cases h2
      | some a => rw [e] at h2; cases h2; rfl
    obtain ⟨u, hu, rv⟩ := r.get ha
    have hp : ps[i]? = some y := by
      rw [← S.pre, List.getElem?_take_of_lt (by omega)]; exact h1
    have ndP : ps.Nodup := by rw [← S.pre]; exact S.nd.sublist (List.take_sublist _ _)
    refine ⟨u, rv, ?_⟩
    rcases S.par y (List.mem_of_getElem? hp) with k | k
    · exact .inl ⟨k, bindL_get ndP hp hu k⟩
    · obtain ⟨c, e⟩ := cell_has (n := s.heap.objs.size + 1) k
      refine .inr ⟨.inl k, c, e, ?_⟩
      have q := x.cell y c e
      rw [bindC_get ndP hp hu (by show scope.names.lookup y ≠ _; rw [k]; decide)] at q
      exact q
  · exact e0.hok.fresh (Nat.le_of_lt (x.above y c (PySem.mem_of_lookup h)))
  · unfold start
    show _ = N.length
    rw [List.length_append, List.length_map, List.length_replicate]
    omega
theorem fn_of {CX : CXT} {P : Program} {w : World} {K : PySem.W.Frag} {mg : Str → Option Value} {base : Heap} {k : Nat} {f : Addr} {name qual : Str} {params : Arguments} {body : List Stmt} {scope : Scope} {dV kV doc pm cdv ct oc : Value} {an od : Option Addr}
    {osl : Array (Option Value)} {N ps : List Str} {sp : Sp} (lk : K.lookup f = some ⟨oc, od, .func (PySem.W.fnOf name qual params body scope dV kV doc pm an cdv ct), osl⟩) (hcd : PySem.W.codeIn K cdv qual = true) (S : FnScope N ps scope)
    (len : ∀ vs H Q E, sp vs H Q E → vs.length = ps.length)
    (hbody : ∀ (A : Around) (outer : List Env) (s : Shared) (H : Hp) (vs : List V) (Q : VK) (E : XK), Room k (A.deeper (envOfC qual scope s.heap.objs.size f cdv)) → sp vs H Q E →
      ∃ t, PSs (cxOf CX P w K mg base N qual scope f cdv A outer s H E) body t ∧ t { nx := fun _ H' => Q .non H', rt := Q } (start N vs) H) :
    FnOk P w K mg base CX (k + 1) f (PySem.W.fnOf name qual params body scope dV kV doc pm an cdv ct) ps sp := by
  refine ⟨len, fun A outer s H args us vs Q E hr e0 hb r hsp => ?_⟩
  have hl := len _ _ _ _ hsp
  have KX : K.In s.heap := e0.mod.kin.keeps fun b o e => (e0.bs b o e).1
  have lim : s.heap.NoLimit := e0.mod.nolimit.keeps fun b o e => (e0.bs b o e).1
  have hkind : ∀ y ∈ ps.zip us, scope.names.lookup y.1 = some .local ∨ (scope.names.lookup y.1 = some .cell ∧ ((cellsFrom (s.heap.objs.size + 1) scope.names []).lookup y.1).isSome = true) := fun ⟨n, v⟩ hy => by
    rcases S.par n (List.of_mem_zip hy).1 with q | q
    · exact .inl q
    · exact .inr ⟨q, PySem.W.cellsFrom_some _ _ _ (.inl q)⟩
  refine codeAny_call_function hr.depth (KX _ _ lk) rfl S.co S.gen rfl (PySem.W.codeRec_of KX hcd) (hb _ _ _ _ ?_)
  refine wpAny_newFunctionEnv_cells S.kind hkind fun env he s1 x => ?_
  subst he
  refine ⟨lim.keeps x.toInCall.keep, codeAny_func ?_⟩
  obtain ⟨t, ht, hq⟩ := hbody A outer s H vs Q E (hr.deeper _) hsp
  have I : Inv (cxOf CX P w K mg base N qual scope f cdv A outer s H E) [] (start N vs) H s1 := inv_start S hr.hd e0 hl r x
  refine wpAny_mono (ht [] s1 (start N vs) H _ I hq) (fun fl s' hs => ?_) fun e s' hs => hs
  have fin : ∀ {σ' : St} {H' : Hp} {v : V} {u : Value}, Inv (cxOf CX P w K mg base N qual scope f cdv A outer s H E) [] σ' H' s' → RelV v u → Q v H' → CE outer P w H s Q u s' :=
    fun {σ' H' v u} J rv q => ⟨v, H', J.os, J.bare, J.base, J.hok, rv, q⟩
  cases fl with
  | ret u =>
    obtain ⟨v, σ', H', J, rv, q⟩ := hs
    exact fin J rv q
  | next =>
    obtain ⟨σ', H', J, q⟩ := hs
    exact fin (v := V.non) (u := Value.none) J rfl q
  | brk =>
    obtain ⟨_, _, _, q⟩ := hs
    exact False.elim q
  | cont =>
    obtain ⟨_, _, _, q⟩ := hs
    exact False.elim q
end L2
namespace L2
open PySem PySem.Spec PyProof.Rows
section
variable {X : Cx} {x : Str} {p pos : Pos} {e : Expr} {es : List Expr} {t : TA} {id T : String} {r : List V → Hp → VK → Prop}
def tCB (r : List V → Hp → VK → Prop) (t : TA) : TE := fun σ H Q => t σ H fun vs H1 => r vs H1 Q
theorem pe_callB (hc : CallR X (.builtin id) r) (hg : Gl X x) (hm : X.mg x = none) (hv : bootBuiltins x = some (.builtin id)) (ha : PA X (e :: es) t) (hn : x ≠ "__name__" := by decide) (hdb : (x == ("__debug__" : Str)) = false := by decide)
    (he : starEach (e :: es) X.env = (false, eval e X.env) :: starEach es X.env := by rfl) (hpl : (backTo pos (starEach es X.env)).any (·.1) = false := by rfl) : PE X (.Call (.Name x p) (e :: es) [] pos) (tCB r t) := by
  intro pins s σ H Q I h
  refine wpAny_Call_Name_kw (ld_blt I hg hm hv ?_ hn hdb)
  exact PyProof.Rows.callWith_builtin1 (thn (ha pos pins s σ H _ I h) fun us s1 ⟨vs, H1, I1, r1, q1⟩ => hc pins s1 σ H1 vs us Q I1 r1 q1) he hpl
theorem pe_callTy (hc : CallR X (.type T) r) (hg : Gl X x) (hm : X.mg x = none) (hv : bootBuiltins x = some (.type T)) (ha : PA X (e :: es) t) (hn : x ≠ "__name__" := by decide) (hdb : (x == ("__debug__" : Str)) = false := by decide)
    (he : starEach (e :: es) X.env = (false, eval e X.env) :: starEach es X.env := by rfl) (hpl : (backTo pos (starEach es X.env)).any (·.1) = false := by rfl) : PE X (.Call (.Name x p) (e :: es) [] pos) (tCB r t) := by
  intro pins s σ H Q I h
  refine wpAny_Call_Name_kw (ld_blt I hg hm hv ?_ hn hdb)
  exact PyProof.Rows.callWith_type1 (thn (ha pos pins s σ H _ I h) fun us s1 ⟨vs, H1, I1, r1, q1⟩ => hc pins s1 σ H1 vs us Q I1 r1 q1) he hpl
end
end L2
namespace HT
open PySem PyProof.Rows
section
open PySem.SeqAt
open PySem.AutoSeq1 (wpAny_loadPart')
open PySem.MeetsSeq PySem.MeetsSeq2 PySem.MeetsSeq3
end
section
variable {prog : Program} {w : World} {A : Around} {E : Value → Shared → Prop} {s : Shared}
theorem cat_tup {t b : Addr} {vs ws : List Value} {Q : Value → Shared → Prop} (ht : IsTup s.heap t vs.toArray) (hb : IsTup s.heap b ws.toArray) (hv : vs ≠ [])
    (h1 : ws = [] → Q (.ref t) s) (h2 : ws ≠ [] → Q (.ref s.heap.objs.size) { s with heap := s.heap.push { cls := .type "tuple", data := .seq (vs ++ ws).toArray } })
    (hsz : vs.length + ws.length ≤ sizeLine) : wpAny (model prog w) A (binaryOp .Add (.ref t) (.ref b)) Q E s := by
  obtain ⟨⟨cls, dd, data, sl⟩, ho, hc, n, hd⟩ := id ht
  obtain ⟨⟨cls2, dd2, data2, sl2⟩, ho2, hc2, n2, hd2⟩ := id hb
  simp only at hc hd hc2 hd2
  subst hc hd hc2 hd2
  have e : vs.toArray ++ ws.toArray = (vs ++ ws).toArray := by simp
  by_cases hw : ws = []
  · exact concat_meets ⟨_, ho, rfl⟩ ⟨_, ho2, rfl⟩ noFill_tuple_add seq_tuple_add PySem.F.slot_tuple_add PySem.F.entry_tuple_add (PySem.F.args_tuple_add_2 _ _)
      (tuple_addW1 t b vs.toArray ws.toArray n n2 dd dd2 sl sl2 (by simpa using hv) (by simp [hw])) ⟨ho, ho2, h1 hw⟩
  · refine concat_meets ⟨_, ho, rfl⟩ ⟨_, ho2, rfl⟩ noFill_tuple_add seq_tuple_add PySem.F.slot_tuple_add PySem.F.entry_tuple_add (PySem.F.args_tuple_add_2 _ _)
      (tuple_addW2 t b vs.toArray ws.toArray n n2 dd dd2 sl sl2 (by simpa using hv) (by simpa using hw) (by rw [List.size_toArray, List.size_toArray]; exact hsz)) ⟨ho, ho2, ?_⟩
    rw [e]
    exact h2 hw
def sIx (n d : Nat) : Option Int → Nat
  | none => d
  | some v => if v < 0 then (v + (n : Int)).toNat else min v.toNat n
theorem sIx_none (n d : Nat) : sIx n d none = d := rfl
theorem sIx_nat (n d k : Nat) : sIx n d (some (k : Int)) = min k n := by
  show (if (k : Int) < 0 then ((k : Int) + (n : Int)).toNat else min (k : Int).toNat n) = min k n
  rw [if_neg (by omega), Int.toNat_natCast]
theorem sIx_le (n d : Nat) (hd : d ≤ n) (o : Option Int) : sIx n d o ≤ n := by
  cases o with
  | none => exact hd
  | some v =>
    show (if v < 0 then (v + (n : Int)).toNat else min v.toNat n) ≤ n
    by_cases hv : v < 0
    · rw [if_pos hv]; omega
    · rw [if_neg hv]; exact Nat.min_le_right _ _
theorem clip_eq (v : Int) (n d : Nat) : (if v < 0 then max (v + (n : Int)) 0 else min v (n : Int)) = ((sIx n d (some v) : Nat) : Int) := by
  show (if v < 0 then max (v + (n : Int)) 0 else min v (n : Int)) = (((if v < 0 then (v + (n : Int)).toNat else min v.toNat n) : Nat) : Int)
  by_cases hv : v < 0
  · simp only [if_pos hv]; omega
  · simp only [if_neg hv]; omega
theorem adjust_gen (lo hi : Option Int) (n : Nat) : Builtin.Slice.sliceAdjust lo hi 1 (n : Int) = (((sIx n 0 lo : Nat) : Int), ((sIx n n hi : Nat) : Int)) := by
  have h1 : ¬ ((1 : Int) < 0) := by omega
  unfold Builtin.Slice.sliceAdjust
  simp only [h1, if_false]
  refine Prod.ext ?_ ?_
  · cases lo with
    | none => rfl
    | some v => exact clip_eq v n 0
  · cases hi with
    | none => rfl
    | some v => exact clip_eq v n n
theorem places_gen (i j : Nat) : Builtin.Slice.slicePlaces (i : Int) (j : Int) 1 = j - i := by
  unfold Builtin.Slice.slicePlaces
  have h1 : (1 : Int) > 0 := by omega
  simp only [h1, if_true, Int.ediv_one]
  split <;> omega
theorem slicePart_ {v : Value} {o : Option Int} {Q : Option Int → Shared → Prop} (p : IsPart v o) (h : Q o s) : wpAny (model prog w) A (Builtin.Slice.slicePartIndex v) Q E s := by
  cases p with
  | none => exact slicePart_none h
  | int i t => exact slicePart_int h
theorem sliceApplied_gen {sl : Addr} {vl vu : Value} {lo hi : Option Int} {n : Nat} {Q : Int × Int × Nat → Shared → Prop} (hs : s.heap.IsSliceOf sl vl vu .none) (pl : IsPart vl lo) (pu : IsPart vu hi)
    (h : Q (((sIx n 0 lo : Nat) : Int), 1, sIx n n hi - sIx n 0 lo) s) : wpAny (model prog w) A (Builtin.Slice.sliceApplied (.ref sl) (pure (n : Int))) Q E s := by
  obtain ⟨os, hos, hcs, hds⟩ := id hs
  unfold Builtin.Slice.sliceApplied Builtin.Slice.sliceFields
  refine wpAny_bind (wpAny_bind (wpAny_field hos hds (x := vl) rfl (wpAny_bind (wpAny_field hos hds (x := vu) rfl (wpAny_bind (wpAny_field hos hds (x := .none) rfl (wpAny_pure ?_)))))))
  refine wpAny_bind (slicePart_none ?_)
  show wpAny _ _ (if ((1 : Int) == 0) = true then _ else _) _ _ s
  rw [if_neg (by decide)]
  refine wpAny_bind (slicePart_ pl (wpAny_bind (slicePart_ pu (wpAny_bind (wpAny_pure ?_)))))
  show wpAny _ _ (match Builtin.Slice.sliceAdjust lo hi 1 (n : Int) with | (lo, hi) => pure (lo, (1 : Int), Builtin.Slice.slicePlaces lo hi 1)) _ _ s
  rw [adjust_gen lo hi n]
  show wpAny _ _ (pure (((sIx n 0 lo : Nat) : Int), (1 : Int), Builtin.Slice.slicePlaces ((sIx n 0 lo : Nat) : Int) ((sIx n n hi : Nat) : Int) 1)) _ _ s
  rw [places_gen]
  exact wpAny_pure h
theorem pick_gen (xs : Array Value) (i k : Nat) : ((List.range k).filterMap fun (m : Nat) => xs[((i : Int) + (m : Int) * 1).toNat]?).toArray = ((xs.toList.drop i).take k).toArray := by
  have e : (fun (m : Nat) => xs[((i : Int) + (m : Int) * 1).toNat]?) = fun m => xs[i + m]? := by
    funext m
    have : ((i : Int) + (m : Int) * 1).toNat = i + m := by omega
    rw [this]
  rw [e]
  have := pick_run xs i k
  rw [List.filterMap_map] at this
  have e2 : ((fun x => xs[x]?) ∘ fun x => i + x) = fun m => xs[i + m]? := rfl
  rw [e2] at this
  rw [this]
theorem getItem_tuple_cut {t sl : Addr} {items : Array Value} {vl vu : Value} {lo hi : Option Int} {Q : Value → Shared → Prop} (ht : IsTup s.heap t items) (hs : s.heap.IsSliceOf sl vl vu .none) (pl : IsPart vl lo) (pu : IsPart vu hi)
    (hw : ¬ (sIx items.size 0 lo = 0 ∧ sIx items.size items.size hi = items.size))
    (h : Q (.ref s.heap.objs.size) { s with heap := s.heap.push { cls := .type "tuple", data := .seq ((items.toList.drop (sIx items.size 0 lo)).take (sIx items.size items.size hi - sIx items.size 0 lo)).toArray } })
    (hsz : items.size ≤ sizeLine) : wpAny (model prog w) A (getItem (.ref t) (.ref sl)) Q E s := by
  have htake : sizeOk (.seq ((items.toList.drop (sIx items.size 0 lo)).take (sIx items.size items.size hi - sIx items.size 0 lo)).toArray) := by
    show ((items.toList.drop (sIx items.size 0 lo)).take (sIx items.size items.size hi - sIx items.size 0 lo)).toArray.size ≤ sizeLine
    rw [List.size_toArray, List.length_take, List.length_drop, Array.length_toList]
    omega
  have hj : sIx items.size items.size hi ≤ items.size := sIx_le _ _ (Nat.le_refl _) hi
  obtain ⟨os, hos, hcs, hds⟩ := id hs
  have hTs : s.TypeIs (.ref sl) "slice" := ⟨os, hos, hcs⟩
  unfold getItem
  try with_reducible refine wpAny_holding ?_
  first | refine wpAny_bind (wpAny_pure ?_) | skip
  refine wpAny_bind (wpAny_sequenceKey ht.typeIs (by decide) ?_)
  refine wpAny_bind (wpAny_callSpecial?_slot (name := Str.ofString "__getitem__") ht.typeIs PyProof.Rows.slot_tuple_getitem
    (wpAny_call_entry PyProof.Rows.slot_tuple_getitem ht.typeIs entry_tuple_getitem ?_ (args_tuple_getitem _ _)))
  show wpAny _ _ (Builtin.Tuple.tupleItemsOf (.ref t) >>= _) _ _ s
  refine wpAny_bind (tupleItemsOf_ ht ?_)
  refine wpAny_bind (wpAny_typeOf hTs ?_)
  rw [if_pos (by decide)]
  refine wpAny_bind (sliceApplied_gen hs pl pu ?_)
  have hno : ¬ ((((sIx items.size 0 lo : Nat) : Int) == 0 && (1 : Int) == 1 && (sIx items.size items.size hi - sIx items.size 0 lo) == items.size) = true) := by
    intro q
    rw [Bool.and_eq_true, Bool.and_eq_true] at q
    have q1 : ((sIx items.size 0 lo : Nat) : Int) = 0 := eq_of_beq q.1.1
    have q2 : sIx items.size items.size hi - sIx items.size 0 lo = items.size := eq_of_beq q.2
    exact hw ⟨by omega, by omega⟩
  show wpAny _ _ (if (((sIx items.size 0 lo : Nat) : Int) == 0 && (1 : Int) == 1 && (sIx items.size items.size hi - sIx items.size 0 lo) == items.size) = true then _ else _) _ _ s
  rw [if_neg hno, pick_gen]
  first
    | exact wpAny_bind (m := Builtin.Tuple.tupleExact _) (wpAny_newObj_type (wpAny_pure ⟨_, rfl, wpAny_pure h⟩) htake)
    | exact wpAny_bind (m := Builtin.Tuple.tupleExact _) (wpAny_newObj_type (wpAny_bind (wpAny_pure (wpAny_pure ⟨_, rfl, wpAny_pure h⟩))) htake)
    | exact wpAny_bind (wpAny_bind (m := Builtin.Tuple.tupleExact _) (wpAny_newObj_type (wpAny_pure (wpAny_pure ⟨_, rfl, wpAny_pure h⟩)) htake))
    | exact wpAny_bind (wpAny_bind (m := Builtin.Tuple.tupleExact _) (wpAny_newObj_type (wpAny_pure ⟨_, rfl, wpAny_pure h⟩) htake))
end
end HT
namespace L2
open PySem PySem.Spec PyProof.Rows
abbrev TO := St → Hp → (Option Int → Hp → Prop) → Prop
def PO (X : Cx) (e : Option Expr) (t : TO) : Prop :=
  ∀ (pins : List (Addr × Obj)) (s : Shared) (σ : St) (H : Hp) (Q : Option Int → Hp → Prop), Inv X pins σ H s → t σ H Q →
    wpAny (model X.prog X.w) X.A (evalPart e X.env) (fun u s' => ∃ o H', Inv X pins σ H' s' ∧ IsPart u o ∧ Q o H') X.xe s
def tNoPart : TO := fun _ H Q => Q none H
def tPart (t : TE) : TO := fun σ H Q => t σ H fun x H1 => ∃ i, x = .int i ∧ Q (some i) H1
section
variable {X : Cx} {e : Expr} {te : TE} {lo hi : Option Expr} {tl th : TO} {pos p2 : Pos}
theorem po_none : PO X none tNoPart := by
  intro pins s σ H Q I h
  rw [evalPart_none]
  exact wpAny_pure ⟨none, H, I, .none, h⟩
theorem po_some (h : PE X e te) : PO X (some e) (tPart te) := by
  intro pins s σ H Q I hw
  rw [evalPart_some]
  refine thn (h pins s σ H _ I hw) fun u s1 ⟨x, H1, I1, r1, q1⟩ => ?_
  obtain ⟨i, rfl, q⟩ := q1
  obtain ⟨t, rfl⟩ := r1
  exact ⟨some i, H1, I1, .int i t, q⟩
def SlR (X : Cx) (r : V → Option Int → Option Int → Hp → VK → Prop) : Prop :=
  ∀ (pins : List (Addr × Obj)) (s : Shared) (σ : St) (H : Hp) (x : V) (v vl vu : Value) (lo hi : Option Int) (sl : Addr) (Q : VK), Inv X pins σ H s → RelV x v → s.heap.IsSliceOf sl vl vu .none → IsPart vl lo → IsPart vu hi → r x lo hi H Q →
    ∃ T id, typeLookup (.type T) "__getitem__" = pure (some (.builtin id)) ∧ s.TypeIs v T ∧ wpAny (model X.prog X.w) X.A (getItem v (.ref sl)) (EP X pins σ Q) X.xe s
def tSl (r : V → Option Int → Option Int → Hp → VK → Prop) (te : TE) (tl th : TO) : TE := fun σ H Q => te σ H fun x H1 => tl σ H1 fun l H2 => th σ H2 fun u H3 => r x l u H3 Q
theorem pe_slice {r : V → Option Int → Option Int → Hp → VK → Prop} (hr : SlR X r) (he : PE X e te) (hl : PO X lo tl) (hu : PO X hi th) : PE X (.Subscript e (.Slice lo hi none p2) pos) (tSl r te tl th) := by
  intro pins s σ H Q I h
  refine Subscript_ (thn (he pins s σ H _ I h) fun v s1 ⟨x, H1, I1, r1, q1⟩ => ?_)
  refine wpAny_Slice (thn (hl pins s1 σ H1 _ I1 q1) fun vl s2 ⟨l, H2, I2, pl, q2⟩ => thn (hu pins s2 σ H2 _ I2 q2) fun vu s3 ⟨u, H3, I3, pu, q3⟩ => ?_)
  rw [evalPart_none]
  refine wpAny_pure ?_
  have I4 : Inv X pins σ H3 { s3 with heap := s3.heap.push { cls := .type "slice", data := .fields #[vl, vu, .none] } } := I3.kept (t' := s3.toks) fun b ob q => Heap.get?_push_of_some _ q
  obtain ⟨T, id, hT, ht, hg⟩ := hr pins { s3 with heap := s3.heap.push { cls := .type "slice", data := .fields #[vl, vu, .none] } } σ H3 x v vl vu l u s3.heap.objs.size Q I4 r1 (Heap.IsSliceOf.new ..) pl pu q3
  show wpAny (model X.prog X.w) X.A (subscriptTail e (.Slice lo hi none p2) v (.ref s3.heap.objs.size)) (EP X pins σ Q) X.xe { s3 with heap := s3.heap.push { cls := .type "slice", data := .fields #[vl, vu, .none] } }
  exact tail_any (ops := [.ref s3.heap.objs.size, v]) ht hT hg (by with_unfolding_all rfl)
def cutV (xs : List V) (lo hi : Option Int) : List V := (xs.drop (HT.sIx xs.length 0 lo)).take (HT.sIx xs.length xs.length hi - HT.sIx xs.length 0 lo)
theorem cutV_length (xs : List V) (lo hi : Option Int) : (cutV xs lo hi).length ≤ xs.length := by
  unfold cutV
  rw [List.length_take, List.length_drop]
  omega
def rSlT (K : PySem.W.Frag) : V → Option Int → Option Int → Hp → VK → Prop := fun x lo hi H Q => ∃ a xs, x = .ref a ∧ SqT K H a xs ∧
  ¬ (HT.sIx xs.length 0 lo = 0 ∧ HT.sIx xs.length xs.length hi = xs.length) ∧ ∀ p, H p = none → Q (.ref p) (upd H p (.tup (cutV xs lo hi)))
theorem sl_tup : SlR X (rSlT X.K) := by
  intro pins s σ H x v vl vu lo hi sl Q I rx hs pl pu h
  obtain ⟨a, xs, rfl, hx, hw, q⟩ := h
  cases rx
  obtain ⟨its, r, ht, hz⟩ := I.tuple hx
  have hlen : its.toArray.size = xs.length := by rw [List.size_toArray]; exact r.length.symm
  refine ⟨"tuple", _, PyProof.Rows.slot_tuple_getitem.lookup, ht.typeIs, ?_⟩
  refine HT.getItem_tuple_cut ht hs pl pu (by rw [hlen]; exact hw) ?_ (by rw [hlen]; exact hz)
  rw [hlen]
  refine ⟨.ref s.heap.objs.size, _, I.laid (t' := s.toks) (o := .tup (cutV xs lo hi)) (fun b ob q => Heap.get?_push_of_some _ q) (Nat.le_refl _) ?_, rfl, q _ (I.hok.fresh (Nat.le_refl _))⟩
  exact ⟨Nat.le_trans (cutV_length xs lo hi) hz, _, (r.drop (HT.sIx xs.length 0 lo)).take (HT.sIx xs.length xs.length hi - HT.sIx xs.length 0 lo), IsTup.new _ _⟩
def rCatT (K : PySem.W.Frag) : R2 := fun x y H Q => ∃ a b xs ys, x = .ref a ∧ y = .ref b ∧ SqT K H a xs ∧ SqT K H b ys ∧ xs ≠ [] ∧ xs.length + ys.length ≤ sizeLine ∧
  (ys = [] → Q (.ref a) H) ∧ (ys ≠ [] → ∀ p, H p = none → Q (.ref p) (upd H p (.tup (xs ++ ys))))
theorem Vals.nil_iff {xs : List V} {us : List Value} (r : Vals xs us) : us = [] ↔ xs = [] := by
  cases r with
  | nil => simp
  | cons _ _ => simp
theorem op_catT : OpR X (binaryOp .Add) (rCatT X.K) := by
  intro pins s σ H x y v u Q I rx ry h
  obtain ⟨a, b, xs, ys, rfl, rfl, ha, hb, hx, hz, q1, q2⟩ := h
  cases rx
  cases ry
  obtain ⟨its, r1, p1, _⟩ := I.tuple ha
  obtain ⟨its2, r2, p2, _⟩ := I.tuple hb
  refine HT.cat_tup p1 p2 (fun z => hx (r1.nil_iff.mp z)) (fun z => ⟨.ref a, H, I, rfl, q1 (r2.nil_iff.mp z)⟩) (fun z => ?_) (by rw [← r1.length, ← r2.length]; exact hz)
  refine ⟨.ref s.heap.objs.size, _, I.laid (t' := s.toks) (o := .tup (xs ++ ys)) (fun b ob q => Heap.get?_push_of_some _ q) (Nat.le_refl _) ?_, rfl, q2 (fun w => z (r2.nil_iff.mpr w)) _ (I.hok.fresh (Nat.le_refl _))⟩
  exact ⟨by rw [List.length_append]; exact hz, _, r1.append r2, IsTup.new _ _⟩
end
end L2
namespace L2
open PySem PySem.Spec PyProof.Rows
def ixN (n : Nat) (i : Int) : Option Nat := if 0 ≤ i then (if i < n then some i.toNat else none) else if -(n : Int) ≤ i then some (i + n).toNat else none
def atI {α : Type} (xs : List α) (i : Int) : Option α := (ixN xs.length i).bind fun j => xs[j]?
theorem ixN_seq {n : Nat} {i : Int} {j : Nat} (h : ixN n i = some j) : seqIndex? i n = some j ∧ j < n ∧ -(n : Int) ≤ i ∧ i < n := by
  unfold ixN at h
  by_cases h0 : 0 ≤ i
  · rw [if_pos h0] at h
    by_cases h1 : i < n
    · rw [if_pos h1] at h
      have e : i.toNat = j := Option.some.inj h
      exact ⟨by rw [seqIndex_of h0 h1, e], by omega, by omega, h1⟩
    · rw [if_neg h1] at h; cases h
  · rw [if_neg h0] at h
    by_cases h1 : -(n : Int) ≤ i
    · rw [if_pos h1] at h
      have e : (i + n).toNat = j := Option.some.inj h
      exact ⟨by rw [seqIndex_neg (by omega) h1, e], by omega, h1, by omega⟩
    · rw [if_neg h1] at h; cases h
theorem atI_get {α : Type} {xs : List α} {i : Int} {v : α} (h : atI xs i = some v) : ∃ j, seqIndex? i xs.length = some j ∧ xs[j]? = some v ∧ j < xs.length ∧ -(xs.length : Int) ≤ i ∧ i < xs.length := by
  unfold atI at h
  cases e : ixN xs.length i with
  | none => rw [e] at h; cases h
  | some j =>
    rw [e] at h
    obtain ⟨h1, h2, h3, h4⟩ := ixN_seq e
    exact ⟨j, h1, h, h2, h3, h4⟩
def PlainIx (b : Expr) : Prop := ∀ o i, subscripted b false o i = operate [o, i] (getItem o i)
def IxR (X : Cx) (r : R2) : Prop :=
  ∀ (value slice : Expr) (pins : List (Addr × Obj)) (s : Shared) (σ : St) (H : Hp) (x y : V) (v u : Value) (Q : VK), Inv X pins σ H s → RelV x v → RelV y u → r x y H Q →
    subscripted slice false v u = operate [v, u] (getItem v u) → wpAny (model X.prog X.w) X.A (subscriptTail value slice v u) (EP X pins σ Q) X.xe s
def MtR (X : Cx) (id : String) (r : V → List V → Hp → VK → Prop) : Prop :=
  ∀ (pins : List (Addr × Obj)) (s : Shared) (σ : St) (H : Hp) (x : V) (xs : List V) (v : Value) (us : List Value) (Q : VK), Inv X pins σ H s → RelV x v → Vals xs us → r x xs H Q →
    wpAny (model X.prog X.w) X.A (call (.builtin id) (v :: us)) (EP X pins σ Q) X.xe s
section
variable {X : Cx} {a b : Expr} {ta tb : TE} {pos : Pos}
theorem pe_ix {r : R2} (hr : IxR X r) (ha : PE X a ta) (hb : PE X b tb) (hs : PlainIx b) : PE X (.Subscript a b pos) (tOp r ta tb) := by
  intro pins s σ H Q I h
  exact Subscript_ (binT ha hb I h fun v u s2 x y H2 I2 rx ry q => hr a b pins s2 σ H2 x y v u Q I2 rx ry q (hs _ _))
def rIxL (K : PySem.W.Frag) : R2 := fun x y H Q => ∃ p xs i v, x = .ref p ∧ y = .int i ∧ SqL K H p xs ∧ atI xs i = some v ∧ Q v H
def rIxT (K : PySem.W.Frag) : R2 := fun x y H Q => ∃ p xs i v, x = .ref p ∧ y = .int i ∧ SqT K H p xs ∧ atI xs i = some v ∧ Q v H
def rIxS : R2 := fun x y H Q => ∃ z i c, x = .str z ∧ y = .int i ∧ z.length ≤ sizeLine ∧ atI z.cps.toList i = some c ∧ Q (.str ⟨#[c]⟩) H
theorem ix_list : IxR X (rIxL X.K) := by
  intro value slice pins s σ H x y v u Q I rx ry h hs
  obtain ⟨p, xs, i, z, rfl, rfl, hq, he, q⟩ := h
  cases rx
  obtain ⟨t, rfl⟩ := ry
  obtain ⟨its, r, pl, hz⟩ := I.list hq
  obtain ⟨j, h1, h2, h3, h4, h5⟩ := atI_get he
  obtain ⟨w, ew, rw'⟩ := r.get h2
  have hl := r.length
  have hn := line63
  have fin : EP X pins σ Q w s := ⟨z, H, I, rw', q⟩
  by_cases h0 : 0 ≤ i
  · have hj : i.toNat = j := by
      rw [seqIndex_of h0 h5] at h1
      exact Option.some.inj h1
    exact item_listR pl.isList h0 (by omega) (by rw [hj]; simpa using ew) fin hs
  · have hj : (i + (its.toArray.size : Int)).toNat = j := by
      rw [seqIndex_neg (by omega) h4] at h1
      rw [List.size_toArray, ← hl]
      exact Option.some.inj h1
    exact subscriptTail_builtinR (x := w) pl.isList.typeIs slot_list_getitem.lookup
      (wpAny_getItem_list_neg (Q := fun r s' => r = w ∧ EP X pins σ Q r s') pl.isList (by omega) (by rw [List.size_toArray] <;> omega) (by omega) (by rw [hj]; simpa using ew) ⟨rfl, fin⟩) hs
theorem ix_tup : IxR X (rIxT X.K) := by
  intro value slice pins s σ H x y v u Q I rx ry h hs
  obtain ⟨p, xs, i, z, rfl, rfl, hq, he, q⟩ := h
  cases rx
  obtain ⟨t, rfl⟩ := ry
  obtain ⟨its, r, pl, hz⟩ := I.tuple hq
  obtain ⟨j, h1, h2, h3, h4, h5⟩ := atI_get he
  obtain ⟨w, ew, rw'⟩ := r.get h2
  have hl := r.length
  have hn := line63
  have fin : EP X pins σ Q w s := ⟨z, H, I, rw', q⟩
  exact subscriptTail_builtinR (x := w) pl.typeIs slot_tuple_getitem.lookup
    (getItem_tuple (j := j) (Q := fun r s' => r = w ∧ EP X pins σ Q r s') pl (by omega) (by omega) (by rw [List.size_toArray, ← hl]; exact h1) (by simpa using ew) ⟨rfl, fin⟩) hs
theorem ix_str : IxR X rIxS := by
  intro value slice pins s σ H x y v u Q I rx ry h hs
  obtain ⟨z, i, c, rfl, rfl, hz, he, q⟩ := h
  obtain ⟨t, rfl⟩ := rx
  obtain ⟨t', rfl⟩ := ry
  obtain ⟨j, h1, h2, h3, h4, h5⟩ := atI_get he
  have hl : z.cps.toList.length = z.length := by simp [Str.length]
  rw [hl] at h1 h4 h5
  have hn := line63
  exact tail_any (typeIs_str s z t) slot_str_getitem.lookup (getItem_str (c := c) (by
    have e1 : decide (i < -(2 ^ 63 : Int)) = false := decide_eq_false (by omega)
    have e2 : decide (i ≥ 2 ^ 63) = false := decide_eq_false (by omega)
    rw [e1, e2, Bool.or_false]) (by rw [h1]; simpa using h2) ⟨.str ⟨#[c]⟩, H, I.tok _, ⟨_, rfl⟩, q⟩) hs
theorem mapSeq_set (its : List Value) (n j : Nat) (u : Value) : Obj.mapSeq (·.setIfInBounds j u) { cls := .type "list", data := .seq its.toArray n } = { cls := .type "list", data := .seq (its.set j u).toArray n } := by
  simp [Obj.mapSeq]
theorem Inv.lst {pins : List (Addr × Obj)} {σ : St} {H : Hp} {s : Shared} {p : Addr} {xs : List V} (I : Inv X pins σ H s) (h : H p = some (.lst xs)) :
    ∃ (its : List Value) (n : Nat), Vals xs its ∧ s.heap.get? p = some { cls := .type "list", data := .seq its.toArray n } ∧ xs.length ≤ sizeLine := by
  obtain ⟨z, its, n, r, e⟩ := I.hok p _ h
  exact ⟨its, n, r, e, z⟩
theorem Inv.lstUpd {pins : List (Addr × Obj)} {σ : St} {H : Hp} {s : Shared} {p : Addr} {xs ys : List V} {its its' : List Value} {n n' : Nat} {f : Obj → Obj} (I : Inv X pins σ H s) (h : H p = some (.lst xs))
    (ho : s.heap.get? p = some { cls := .type "list", data := .seq its.toArray n }) (hf : f { cls := .type "list", data := .seq its.toArray n } = { cls := .type "list", data := .seq its'.toArray n' }) (r : Vals ys its') (hz : ys.length ≤ sizeLine) (t : Nat) :
    Inv X pins σ (upd H p (.lst ys)) { s with heap := s.heap.update p f, toks := t } := by
  have e : (s.heap.update p f).get? p = some { cls := .type "list", data := .seq its'.toArray n' } := by
    rw [Heap.get?_update_self f ho (by rw [hf] <;> rfl), hf]
  refine I.write (x := p) (e := p) (by rw [h]; trivial) (.inl rfl) (fun b u hb q => (Heap.get?_update_other _ _ (Ne.symm hb)).trans q) ⟨_, e⟩ ?_
  exact ⟨hz, its', n', r, e⟩
def rSetL : V → V → V → Hp → (Hp → Prop) → Prop := fun o i v H Q => ∃ p xs k j, o = .ref p ∧ i = .int k ∧ H p = some (.lst xs) ∧ ixN xs.length k = some j ∧ Q (upd H p (.lst (xs.set j v)))
theorem set_list : PSet X rSetL := by
  intro pins s σ H o i v ov iv u Q I ro ri rv h
  obtain ⟨p, xs, k, j, rfl, rfl, hp, hj, q⟩ := h
  cases ro
  obtain ⟨t, rfl⟩ := ri
  obtain ⟨its, n, r, ho, hz⟩ := I.lst hp
  obtain ⟨h1, h2, h3, h4⟩ := ixN_seq hj
  have hl := r.length
  have hn := line63
  have I' : Inv X pins σ (upd H p (.lst (xs.set j v))) { s with heap := s.heap.update p (Obj.mapSeq (·.setIfInBounds j u)) } :=
    I.lstUpd hp ho (mapSeq_set its n j u) (r.set rv j) (by rw [List.length_set]; exact hz) s.toks
  by_cases h0 : 0 ≤ k
  · have hk : k.toNat = j := by
      rw [seqIndex_of h0 h4] at h1
      exact Option.some.inj h1
    exact PySem.W.ki_setAt ho h0 (by omega) (by rw [List.size_toArray, ← hl]; exact h4) (by rw [hk]; exact ⟨_, I', q⟩)
  · have hk : (k + (its.toArray.size : Int)).toNat = j := by
      rw [seqIndex_neg (by omega) h3] at h1
      rw [List.size_toArray, ← hl]
      exact Option.some.inj h1
    exact PySem.W.ki_setBack ho (by omega) (by rw [List.size_toArray, ← hl]; exact h3) (by omega) (by rw [hk]; exact ⟨_, I', q⟩)
theorem slice_bounds (lo hi : Option Int) (n : Nat) : (sliceBounds lo hi none n).1 = ((HT.sIx n 0 lo : Nat) : Int) ∧ (sliceBounds lo hi none n).2.1 = ((HT.sIx n n hi : Nat) : Int) ∧ (sliceBounds lo hi none n).2.2 = 1 := by
  refine ⟨?_, ?_, rfl⟩
  · cases lo with
    | none => simp [sliceBounds, HT.sIx]
    | some i =>
      simp only [sliceBounds, HT.sIx, Option.getD_none, show (1 : Int) > 0 by decide, if_true]
      by_cases h : i < 0
      · simp only [h, if_true] <;> omega
      · simp only [h, if_false] <;> omega
  · cases hi with
    | none => simp [sliceBounds, HT.sIx]
    | some i =>
      simp only [sliceBounds, HT.sIx, Option.getD_none, show (1 : Int) > 0 by decide, if_true]
      by_cases h : i < 0
      · simp only [h, if_true] <;> omega
      · simp only [h, if_false] <;> omega
theorem slicePick_cut (its : List Value) (lo hi : Option Int) : slicePick its.toArray lo hi none = ((its.drop (HT.sIx its.length 0 lo)).take (HT.sIx its.length its.length hi - HT.sIx its.length 0 lo)).toArray := by
  obtain ⟨h1, h2, h3⟩ := slice_bounds lo hi its.toArray.size
  unfold slicePick
  rw [h1, h2, h3]
  simp only [sliceRange_one, pick_run, List.size_toArray] <;> rfl
def rSlL (K : PySem.W.Frag) : V → Option Int → Option Int → Hp → VK → Prop := fun x lo hi H Q => ∃ a xs, x = .ref a ∧ SqL K H a xs ∧ ∀ p, H p = none → Q (.ref p) (upd H p (.lst (cutV xs lo hi)))
theorem sl_list : SlR X (rSlL X.K) := by
  intro pins s σ H x v vl vu lo hi sl Q I rx hs pl pu h
  obtain ⟨a, xs, rfl, hx, q⟩ := h
  cases rx
  obtain ⟨its, r, ht, hz⟩ := I.list hx
  have hlen := r.length
  refine ⟨"list", _, slot_list_getitem.lookup, ht.isList.typeIs, ?_⟩
  refine wpAny_getItem_list_slice ht.isList hs pl pu .none (by simp) ?_ (by rw [List.size_toArray] <;> omega)
  rw [slicePick_cut, ← hlen]
  refine ⟨.ref s.heap.objs.size, _, I.laid (t' := s.toks) (o := .lst (cutV xs lo hi)) (fun b ob q => Heap.get?_push_of_some _ q) (Nat.le_refl _) ?_, rfl, q _ (I.hok.fresh (Nat.le_refl _))⟩
  exact ⟨Nat.le_trans (cutV_length xs lo hi) hz, _, 0, (r.drop (HT.sIx xs.length 0 lo)).take (HT.sIx xs.length xs.length hi - HT.sIx xs.length 0 lo), Heap.get?_push_size _ rfl⟩
def flatV : V → Bool
  | .non => true
  | .bl _ => true
  | .int _ => true
  | .str _ => true
  | _ => false
def eqV : V → V → Bool
  | .non, .non => true
  | .bl a, .bl b => a == b
  | .bl a, .int b => (if a then 1 else 0) == b
  | .int a, .bl b => a == (if b then 1 else 0)
  | .int a, .int b => a == b
  | .str a, .str b => a == b
  | _, _ => false
theorem eqAt_V {A : Around} {s : Shared} {y x : V} {u v : Value} (ry : RelV y u) (rx : RelV x v) (fy : flatV y = true) (fx : flatV x = true) : SeqAt.EqAt A s u v (eqV y x) := by
  cases y with
  | non =>
    cases ry
    cases x with
    | non => cases rx; exact SeqAt.EqAt.same _
    | bl b => cases rx; exact SeqAt.EqAt.none_bool b
    | int b => obtain ⟨t, rfl⟩ := rx; exact SeqAt.EqAt.none_int b t
    | str b => obtain ⟨t, rfl⟩ := rx; exact SeqAt.EqAt.none_str b t
    | _ => exact absurd (show false = true from fx) Bool.false_ne_true
  | bl a =>
    cases ry
    cases x with
    | non => cases rx; exact SeqAt.EqAt.bool_none a
    | bl b => cases rx; exact SeqAt.EqAt.bool_bool a b
    | int b => obtain ⟨t, rfl⟩ := rx; exact SeqAt.EqAt.bool_int a b t
    | str b => obtain ⟨t, rfl⟩ := rx; exact SeqAt.EqAt.bool_str a b t
    | _ => exact absurd (show false = true from fx) Bool.false_ne_true
  | int a =>
    obtain ⟨t', rfl⟩ := ry
    cases x with
    | non => cases rx; exact SeqAt.EqAt.int_none a t'
    | bl b => cases rx; exact SeqAt.EqAt.int_bool a t' b
    | int b => obtain ⟨t, rfl⟩ := rx; exact SeqAt.EqAt.int_int a t' b t
    | str b => obtain ⟨t, rfl⟩ := rx; exact SeqAt.EqAt.int_str a t' b t
    | _ => exact absurd (show false = true from fx) Bool.false_ne_true
  | str a =>
    obtain ⟨t', rfl⟩ := ry
    cases x with
    | non => cases rx; exact SeqAt.EqAt.str_none a t'
    | bl b => cases rx; exact SeqAt.EqAt.str_bool a t' b
    | int b => obtain ⟨t, rfl⟩ := rx; exact SeqAt.EqAt.str_int a t' b t
    | str b => obtain ⟨t, rfl⟩ := rx; exact SeqAt.EqAt.str_str a t' b t
    | _ => exact absurd (show false = true from fx) Bool.false_ne_true
  | _ => exact absurd (show false = true from fy) Bool.false_ne_true
def eqU (x : V) (u : Value) : Bool := match u with
  | .none => eqV .non x
  | .bool b => eqV (.bl b) x
  | .int i _ => eqV (.int i) x
  | .str z _ => eqV (.str z) x
  | _ => false
theorem eqU_of {x y : V} {u : Value} (r : RelV y u) (f : flatV y = true) : eqU x u = eqV y x := by
  cases y with
  | non => cases r; rfl
  | bl b => cases r; rfl
  | int i => obtain ⟨t, rfl⟩ := r; rfl
  | str z => obtain ⟨t, rfl⟩ := r; rfl
  | _ => exact absurd (show false = true from f) Bool.false_ne_true
theorem any_eqU {x : V} : ∀ {xs : List V} {us : List Value}, Vals xs us → xs.all flatV = true → us.any (eqU x) = xs.any fun y => eqV y x
  | _, _, .nil, _ => rfl
  | y :: xs, u :: us, .cons r t, f => by
    rw [List.all_cons, Bool.and_eq_true] at f
    rw [List.any_cons, List.any_cons, eqU_of r f.1, any_eqU t f.2]
theorem mem_eqAt {A : Around} {s : Shared} {x : V} {v : Value} (rx : RelV x v) (fx : flatV x = true) : ∀ {xs : List V} {us : List Value}, Vals xs us → xs.all flatV = true → ∀ u ∈ us, SeqAt.EqAt A s u v (eqU x u)
  | _, _, .nil, _ => fun u hu => by cases hu
  | y :: xs, u :: us, .cons r t, f => fun u' hu => by
    rw [List.all_cons, Bool.and_eq_true] at f
    rcases List.mem_cons.mp hu with rfl | hu
    · rw [eqU_of r f.1]; exact eqAt_V r rx f.1 fx
    · exact mem_eqAt rx fx t f.2 u' hu
def inV (x : V) (xs : List V) : Bool := xs.any fun y => eqV y x
def rIn (K : PySem.W.Frag) (neg : Bool) : R2 := fun x y H Q => ∃ p xs, y = .ref p ∧ (SqL K H p xs ∨ SqT K H p xs) ∧ flatV x = true ∧ xs.all flatV = true ∧ Q (.bl (if neg then !inV x xs else inV x xs)) H
theorem op_in_seq : OpR X (compareOp .In) (rIn X.K false) := by
  intro pins s σ H x y v u Q I rx ry h
  obtain ⟨p, xs, rfl, hq, fx, fs, q⟩ := h
  cases ry
  rcases hq with hq | hq
  · obtain ⟨its, r, pl, hz⟩ := I.list hq
    refine SeqAt.in_listAt (eqU x) pl.isList (fun w hw => mem_eqAt rx fx r fs w (by simpa using hw)) ⟨.bl _, H, I, rfl, ?_⟩
    rw [show its.toArray.any (eqU x) = its.any (eqU x) by simp, any_eqU r fs]
    exact q
  · obtain ⟨its, r, pl, hz⟩ := I.tuple hq
    refine SeqAt.in_tupleAt (eqU x) pl (fun w hw => mem_eqAt rx fx r fs w (by simpa using hw)) ⟨.bl _, H, I, rfl, ?_⟩
    rw [show its.toArray.any (eqU x) = its.any (eqU x) by simp, any_eqU r fs]
    exact q
theorem call_list_of : CallR X (.type "list") (fun xs H Q => ∃ p ys, xs = [.ref p] ∧ (SqL X.K H p ys ∨ SqT X.K H p ys) ∧ ∀ l, H l = none → Q (.ref l) (upd H l (.lst ys))) := by
  intro pins s σ H xs us Q I r h
  obtain ⟨p, ys, rfl, hq, q⟩ := h
  obtain ⟨u, rfl, rx⟩ := vals1 r
  cases rx
  have fin : ∀ (its : List Value), Vals ys its → ys.length ≤ sizeLine → ∀ (h' : Heap) (c' : Nat), (∀ b o', s.heap.get? b = some o' → h'.get? b = some o') →
      h'.get? s.heap.objs.size = some { cls := .type "list", dict := none, data := .seq its.toArray c', slots := #[] } → EP X pins σ Q (.ref s.heap.objs.size) { s with heap := h' } := fun its r' hz h' c' kp e =>
    ⟨.ref s.heap.objs.size, _, I.laid (t' := s.toks) kp (Nat.le_refl _) (show ObjOk X.prog X.w _ h' _ (.lst ys) from ⟨hz, its, c', r', e⟩), rfl, q _ (I.hok.fresh (Nat.le_refl _))⟩
  rcases hq with hq | hq
  · obtain ⟨its, r', pl, hz⟩ := I.list hq
    have hlen := r'.length
    obtain ⟨o, ho, hc, n, hd⟩ := pl.isList
    exact call_list_seq p (.inl rfl) ho hc hd (fun h' c' kp e => fin its r' hz h' c' kp e) (by simp only [List.size_toArray] <;> omega)
  · obtain ⟨its, r', pl, hz⟩ := I.tuple hq
    have hlen := r'.length
    obtain ⟨o, ho, hc, n, hd⟩ := pl
    exact call_list_seq p (.inr rfl) ho hc hd (fun h' c' kp e => fin its r' hz h' c' kp e) (by simp only [List.size_toArray] <;> omega)
def tyV (K : PySem.W.Frag) (T : String) (x : V) (H : Hp) : Prop := match x with
  | .str _ => T = "str"
  | .int _ => T = "int"
  | .ref p => (T = "list" ∧ ∃ xs, SqL K H p xs) ∨ (T = "tuple" ∧ ∃ o, K.lookup p = some o ∧ o.cls = .type "tuple" ∧ o.dict = none) ∨
      (T = "dict" ∧ ((∃ kvs, H p = some (.dK kvs)) ∨ ∃ kvs, H p = some (.dT kvs))) ∨ (T = "set" ∧ ∃ S n, H p = some (.set S n))
  | _ => False
theorem tyV_is {pins : List (Addr × Obj)} {σ : St} {H : Hp} {s : Shared} {T : String} {x : V} {v : Value} (I : Inv X pins σ H s) (r : RelV x v) (ty : tyV X.K T x H) :
    s.TypeIs v T ∧ ∀ a, v = .ref a → ∃ ob, s.heap.get? a = some ob ∧ ob.dict = none := by
  cases x with
  | str z =>
    obtain ⟨t, rfl⟩ := r
    cases (show T = "str" from ty)
    exact ⟨typeIs_str s z t, fun _ e => nomatch e⟩
  | int i =>
    obtain ⟨t, rfl⟩ := r
    cases (show T = "int" from ty)
    exact ⟨typeIs_int s i t, fun _ e => nomatch e⟩
  | ref p =>
    cases r
    rcases ty with ⟨rfl, xs, hq⟩ | ⟨rfl, o, hk, hc, hd⟩ | ⟨rfl, hk⟩ | ⟨rfl, S, n, hk⟩
    · obtain ⟨its, _, pl, _⟩ := I.list hq
      refine ⟨pl.isList.typeIs, fun a e => ?_⟩
      cases e
      obtain ⟨o, n, e, c, hd, _⟩ := pl
      exact ⟨o, e, hd⟩
    · refine ⟨⟨o, I.kIn p o hk, hc⟩, fun a e => ?_⟩
      cases e
      exact ⟨o, I.kIn _ o hk, hd⟩
    · have z : ∃ o, s.heap.get? p = some o ∧ o.ExactDict := by
        rcases hk with ⟨kvs, hk⟩ | ⟨kvs, hk⟩
        · obtain ⟨_, _, _, _, o, _, _, e, ex, _⟩ := I.hok p _ hk
          exact ⟨o, e, ex⟩
        · obtain ⟨_, _, _, _, o, _, _, e, ex, _⟩ := I.hok p _ hk
          exact ⟨o, e, ex⟩
      obtain ⟨o, e, ex⟩ := z
      refine ⟨⟨o, e, ex.1⟩, fun a e2 => ?_⟩
      cases e2
      exact ⟨o, e, ex.2.1⟩
    · obtain ⟨o, _, _, _, e, ex, _⟩ := I.hok p _ hk
      refine ⟨⟨o, e, ex.1⟩, fun a e2 => ?_⟩
      cases e2
      exact ⟨o, e, ex.2.1⟩
  | _ => exact False.elim ty
def tBM (K : PySem.W.Frag) (T : String) (r : V → List V → Hp → VK → Prop) (to : TE) (t : TA) : TE := fun σ H Q => to σ H fun x H1 => tyV K T x H1 ∧ t σ H1 fun xs H2 => r x xs H2 Q
variable {o e : Expr} {es : List Expr} {to : TE} {t : TA} {name : Str} {apos cpos : Pos} {T id : String} {r : V → List V → Hp → VK → Prop}
theorem pe_bm (pa : PlainAttrs T) (slot : Slot T name id) (hty : typeOf (.builtin id) = pure (.type "method_descriptor")) (hm : MtR X id r) (ho : PE X o to) (ha : PA X (e :: es) t)
    (hbase : attributeBase o name X.env (eval o X.env) = eval o X.env := by rfl)
    (hfew : ((backTo cpos (starEach (e :: es) X.env)).all (fun x => !x.1) && (backToKw cpos (keywordEach [] X.env)).all (fun x => x.1.isSome)
      && decide ((e :: es).length + ([] : List Keyword).length + (if ([] : List Keyword).isEmpty then 0 else 1) < 30)) = true := by rfl)
    (hline : (apos.endLine == cpos.line) = true := by rfl) (hs : starEach (e :: es) X.env = (false, eval e X.env) :: starEach es X.env := by rfl) (hplain : (backTo cpos (starEach es X.env)).any (·.1) = false := by rfl) :
    PE X (.Call (.Attribute o name apos) (e :: es) [] cpos) (tBM X.K T r to t) := by
  intro pins s σ H Q I h
  refine wpAny_Call_method_late hbase hfew hline rfl (thn (ho pins s σ H _ I h) fun v s1 ⟨x, H1, I1, r1, ty, q1⟩ => ?_)
  obtain ⟨h1, h2⟩ := tyV_is I1 r1 ty
  refine ⟨T, id, pa, slot, hty, h1, h2, ?_⟩
  have hA := ha cpos pins s1 σ H1 _ I1 q1
  rw [hs] at hA ⊢
  refine Calls.callWith_builtin (by show (false || (backTo cpos (starEach es X.env)).any (·.1)) = false; rw [hplain] <;> rfl) (Calls.evalArgs_plain ?_)
  exact thn hA fun us s2 ⟨vs, H2, I2, r2, q2⟩ => hm pins s2 σ H2 x vs v us Q I2 r1 r2 q2
/- xs.append(e), list.index on a module's tuple .. are MtR facts of 06m -/
end
end L2
namespace L2
open PySem PySem.Spec PyProof.Rows
def MtM (X : Cx) (id : String) (r : V → List V → Hp → VK → Prop) : Prop :=
  ∀ (pins : List (Addr × Obj)) (s : Shared) (σ : St) (H : Hp) (x : V) (xs : List V) (v : Value) (us : List Value) (Q : VK), Inv X pins σ H s → RelV x v → Vals xs us → r x xs H Q →
    wpAny (model X.prog X.w) X.A (call (.builtin id) (v :: us)) (EP X pins σ Q) X.xe s
theorem Vals.one : ∀ {x : V} {us : List Value}, Vals [x] us → ∃ u, us = [u] ∧ RelV x u
  | _, _, .cons r .nil => ⟨_, rfl, r⟩
theorem Vals.rep {xs : List V} {us : List Value} (h : Vals xs us) : ∀ k : Nat, Vals (List.replicate k xs).flatten (List.replicate k us).flatten
  | 0 => .nil
  | k + 1 => by
    rw [List.replicate_succ, List.replicate_succ, List.flatten_cons, List.flatten_cons]
    exact Vals.append h (Vals.rep h k)
theorem foldl_rep (its : List Value) : ∀ (k : Nat) (acc : List Value),
    List.foldl (fun x1 x2 => x1 ++ x2) acc.toArray (List.replicate k its.toArray) = (acc ++ (List.replicate k its).flatten).toArray
  | 0, acc => by simp
  | k + 1, acc => by
    have e : acc.toArray ++ its.toArray = (acc ++ its).toArray := by simp
    have e2 : (acc ++ its) ++ (List.replicate k its).flatten = acc ++ (List.replicate (k + 1) its).flatten := by
      rw [List.replicate_succ, List.flatten_cons, List.append_assoc]
    rw [← e2, ← foldl_rep its k (acc ++ its), ← e, List.replicate_succ, List.foldl_cons]
section
variable {X : Cx} {pins : List (Addr × Obj)} {σ : St} {H : Hp} {s : Shared} {l b : Addr} {xs ys zs : List V}
theorem Inv.lset {its its' : List Value} {n : Nat} {f : Array Value → Array Value} {t' : Nat} (I : Inv X pins σ H s) (hH : H l = some (.lst xs))
    (e : s.heap.get? l = some { cls := .type "list", data := .seq its.toArray n }) (hf : f its.toArray = its'.toArray) (hv : Vals ys its') (hz : ys.length ≤ sizeLine) :
    Inv X pins σ (upd H l (.lst ys)) { s with heap := s.heap.update l (Obj.mapSeq f), toks := t' } := by
  have q := PySem.IsL.update e f
  rw [hf] at q
  refine I.write (x := l) (e := l) (by rw [hH]; exact trivial) (.inl rfl) (fun b' u hb hu => (Heap.get?_update_other s.heap (Obj.mapSeq f) (Ne.symm hb)).trans hu) ⟨_, q⟩ ?_
  exact ⟨hz, its', _, hv, q⟩
theorem Inv.lnew {its : List Value} {t' : Nat} (I : Inv X pins σ H s) (hv : Vals ys its) (hz : ys.length ≤ sizeLine) :
    Inv X pins σ (upd H s.heap.objs.size (.lst ys)) { s with heap := s.heap.push { cls := .type "list", data := .seq its.toArray }, toks := t' } :=
  I.laid (fun _ _ q => Heap.get?_push_of_some _ q) (Nat.le_refl _) ⟨hz, its, 0, hv, Heap.get?_push_size _ rfl⟩
theorem Inv.fresh (I : Inv X pins σ H s) : H s.heap.objs.size = none := I.hok.fresh (Nat.le_refl _)
theorem Inv.lstM (I : Inv X pins σ H s) (hH : H l = some (.lst xs)) : xs.length ≤ sizeLine ∧ ∃ (its : List Value) (n : Nat), Vals xs its ∧ xs.length = its.length ∧ s.heap.get? l = some { cls := .type "list", data := .seq its.toArray n } := by
  obtain ⟨z, its, n, r, e⟩ := I.hok l _ hH
  exact ⟨z, its, n, r, r.length, e⟩
theorem notLongL {n : Nat} (h : n ≤ sizeLine) : Builtin.List.listTooLong n = false := by
  unfold Builtin.List.listTooLong
  exact decide_eq_false (by omega)
end
section
variable {X : Cx}
def rAppend : V → List V → Hp → VK → Prop := fun x vs H Q => ∃ l xs y, x = .ref l ∧ vs = [y] ∧ H l = some (.lst xs) ∧ xs.length < sizeLine ∧ Q .non (upd H l (.lst (xs ++ [y])))
theorem mt_append : MtM X "list.append" rAppend := by
  intro pins s σ H x vs v us Q I rx rv h
  obtain ⟨l, xs, y, rfl, rfl, hH, hz, q⟩ := h
  cases rx
  obtain ⟨u, rfl, ru⟩ := rv.one
  obtain ⟨z, its, n, r, hl, e⟩ := I.lstM hH
  refine call_meets F.slot_list_append ⟨_, e, rfl⟩ F.entry_list_append (F.args_list_append_2 _ _) (PySem.list_append l its.toArray n u (by rw [List.size_toArray]; omega)) ⟨e, ?_⟩
  refine ⟨.non, _, I.lset (its' := its ++ [u]) hH e (by simp) (r.append (.cons ru .nil)) ?_, rfl, q⟩
  rw [List.length_append, List.length_singleton]
  omega
theorem len_rep {α : Type} (xs : List α) (k : Nat) : (List.replicate k xs).flatten.length = k * xs.length := by
  induction k with
  | zero => simp
  | succ k ih => rw [List.replicate_succ, List.flatten_cons, List.length_append, ih, Nat.succ_mul, Nat.add_comm]
end
section
variable {prog : Program} {w : World} {A : Around} {E : Value → Shared → Prop} {s : Shared}
end
section
variable {X : Cx}
end
end L2
namespace Att
open PySem PySem.W PySem.Calls PyProof.Rows
theorem ints_of_wellAll {P : Params} {h : Heap} : ∀ (ns : List Int) (vs : List Value), WellAll P h vs (ns.map WData.int) → IntsAre vs ns := by
  intro ns
  induction ns with
  | nil =>
    intro vs w
    rw [List.map_nil] at w
    cases w
    exact .nil
  | cons n ns ih =>
    intro vs w
    rw [List.map_cons] at w
    cases w with
    | cons a b =>
      cases a
      exact .cons _ _ (ih _ b)
theorem script_of {l : OpenLaw} {n : Nat} (hn : l.most = some n) {P : Params} {h : Heap} {args : List WData} {vals : List Value}
    (hpre : l.row.toRowW.claim.pre args = true) (hwl : WellAll P h vals args) :
    ∃ a vs ns, vals = [Value.ref a] ∧ args = [WData.list (ns.map WData.int)] ∧ h.get? a = some { cls := .type "list", data := .seq vs.toArray } ∧ IntsAre vs ns ∧ ns.length ≤ n := by
  have hsh : WShape.hasAll [] args [.list .int] = true := (pre_splitW hpre).1
  have hc : l.pre.holds [] { args := args } = true := (pre_splitW hpre).2
  obtain ⟨d, r, rfl, h1, h2⟩ := hasAllW_cons hsh
  obtain rfl := hasAllW_nil h2
  obtain ⟨xs, rfl, h3⟩ := hasW_list h1
  obtain ⟨ns, rfl⟩ := items_int h3
  have hlen : ns.length ≤ n := by
    unfold OpenLaw.pre at hc
    have h4 : (WTm.not (.lt (.lit (.int (n : Int))) (.len (.arg 0)))).holds [] { args := [.list (ns.map .int)] } = true := by
      have h4 := (holds_andW hc).1
      rw [hn] at h4
      exact h4
    have h5 := condW_of h4 (w_not (w_lt w_lit (w_len_list (w_arg rfl))))
    rw [List.length_map] at h5
    refine Nat.le_of_not_lt fun q => ?_
    have q' : (n : Int) < ((ns.length : Nat) : Int) := by omega
    first
      | (rw [decide_eq_true q'] at h5; exact absurd h5 (by decide))
      | (simp at h5; omega)
  cases hwl with
  | cons w1 w2 =>
    cases w2
    cases w1 with
    | list ho hall => exact ⟨_, _, ns, rfl, rfl, ho, ints_of_wellAll ns _ hall, hlen⟩
theorem post_true (l : OpenLaw) (args : List WData) : l.row.toRowW.claim.post args (.bool true) args = true :=
  postW_of (r := l.row.toRowW) (X := (true == true))
    (show WShape.has [] (.bool true) .bool = true by first | rfl | decide | simp [WShape.has, WShape.arms, WShape.armsAll])
    (show (WTm.eq .res (.lit (.bool true))).value [] { args := args, res := some (.bool true), after := args } = some (.bool (true == true)) from w_eq_bool (w_res rfl) w_lit) rfl
theorem attach_call {l : OpenLaw} {n : Nat} {q : Program} {loose : List Str} {XP : (Str → Option Value) → Heap → Prop} {YP : World → Heap → Prop} {d : DefRec}
    (hn : l.most = some n) (hdf : d.params.defaults = [])
    (call : ∀ (w : World) (s₀ s₁ : Shared) (mg mb : Str → Option Value) (fa : Addr) (o : Obj) (pm cd doc : Value) (a : Addr) (vs : List Value) (ns : List Int),
      Ground q loose [] XP w s₀ mg mb s₁.heap → YP w s₁.heap →
      s₁.heap.get? fa = some o → o.data = .func (docDef d.name d.params d.body d.scope pm cd doc) → s₁.heap.CodeRec cd d.name → mg d.name = some (.ref fa) →
      s₁.heap.get? a = some { cls := .type "list", data := .seq vs.toArray } → IntsAre vs ns → ns.length ≤ n → s₁.gens = #[] →
      codeAny (model l.prog w) callerA (.call (.ref fa) ⟨[.ref a], []⟩) (fun r s' => r = .ok (.ret (.bool true)) ∧ OldK s₁.heap s'.heap ∧ s'.os = s₁.os ∧ AllBare s'.gens) s₁) :
    WalkO q loose XP YP l.row.toRowW d [] (fun f vs => PySem.call f vs) := by
  intro w s₀ s₁ mg mb G Y fa o pm cd doc dV kV ho hd hcd hD hmg hg args vals as hpre hlay hrd hwl hlo
  obtain rfl : dV = .none := Dflts.none hD hdf
  obtain rfl : kV = .none := Dflts.noKw hD
  obtain ⟨a, vs, ns, rfl, rfl, hobj, hints, hlen⟩ := script_of hn hpre hwl
  refine enter_call (codeAny_mono (call w s₀ s₁ mg mb fa o pm cd doc a vs ns G Y ho (fd_plain hd) hcd hmg hobj hints hlen hg) fun r s' hq => ?_)
  obtain ⟨rfl, h2, h3, h4⟩ := hq
  exact ⟨.inl ⟨.bool true, .bool true, [], rfl, fun _ => rfl, .bool true, post_true l _, fun _ => ⟨List.Pairwise.nil, fun _ hm => (nomatch hm)⟩⟩, h2, h3, h4⟩
section
variable {prog : Program} {w : World} {A : Around} {E : Value → Shared → Prop} {s : Shared} {K : Frag}
end
end Att
namespace L2
open PySem PySem.Spec PyProof.Rows
theorem vals_ints : ∀ {vs : List Value} {ns : List Int}, IntsAre vs ns → Vals (ns.map V.int) vs
  | _, _, .nil => .nil
  | _, _, .cons n t h => .cons ⟨t, rfl⟩ (vals_ints h)
def Only (H : Hp) : Prop := ∀ b, H b = none ∨ ∃ o xs, H b = some (.frz o (.lst xs))
theorem law_call {P : Program} {w : World} {K : PySem.W.Frag} {mg mb : Str → Option Value} {CX : CXT} {k : Nat} {fa a : Addr} {fd : FuncData} {x : Str} {sp : Sp} {s₁ : Shared} {vs : List Value} {ns : List Int}
    (KX : K.In s₁.heap) (hns : s₁.heap.Ns mainGlobals mg) (hb : s₁.heap.Ns builtinsNs mb) (hbb : ∀ x : Str, x ≠ "__name__" → mb x = bootBuiltins x) (hlim : s₁.heap.NoLimit) (hg : s₁.gens = #[])
    (ha : s₁.heap.get? a = some { cls := .type "list", data := .seq vs.toArray }) (hi : IntsAre vs ns) (hl : ns.length ≤ sizeLine) (hr : Room k callerA)
    (F : ∀ base : Heap, K.In base → base.Ns mainGlobals mg → FnOk P w K mg base CX k fa fd [x] sp) (hbind : ∀ (s : Shared) (u : Value), BindsTo s fd ⟨[u], []⟩ [(x, u)])
    (hsp : ∀ H : Hp, Only H → SqL K H a (ns.map V.int) → sp [.ref a] H (fun v _ => v = .bl true) fun _ _ _ => False)
    (hCX : ∀ H e s', CX [] H s₁ (fun _ _ _ => False) e s' → False) :
    codeAny (model P w) callerA (.call (.ref fa) ⟨[.ref a], []⟩) (fun r s' => r = .ok (.ret (.bool true)) ∧ OldK s₁.heap s'.heap ∧ s'.os = s₁.os ∧ AllBare s'.gens) s₁ := by
  have rv := vals_ints hi
  have lenV := hi.length
  have core : ∀ H : Hp, Only H → SqL K H a (ns.map V.int) → HOk P w H s₁.heap → (∀ b, H b ≠ none → b = a) → (H a ≠ none → K.lookup a = none) →
      codeAny (model P w) callerA (.call (.ref fa) ⟨[.ref a], []⟩) (fun r s' => r = .ok (.ret (.bool true)) ∧ OldK s₁.heap s'.heap ∧ s'.os = s₁.os ∧ AllBare s'.gens) s₁ := by
    intro H hO hS hok hA hK
    have base_of : ∀ {b : Addr} {o : Obj}, s₁.heap.get? b = some o → H b = none → (hidT s₁.heap H).get? b = some o := fun e n => hidT_get e n
    have noA : ∀ {b : Addr} {o : Obj} {es : Array DictEntry} {ep : Nat}, s₁.heap.get? b = some o → o.data = .dict es ep → H b = none := fun {b o es ep} e d => by
      cases q : H b with
      | none => rfl
      | some u =>
        have e' : b = a := hA b (by rw [q]; simp)
        subst e'
        rw [ha] at e; cases e
        have d' : Data.seq vs.toArray _ = Data.dict es ep := d
        cases d'
    have nsK : ∀ {b : Addr} {m : Str → Option Value}, s₁.heap.Ns b m → (hidT s₁.heap H).Ns b m := fun {b m} ⟨o, es, ep, e, d, r⟩ => ⟨o, es, ep, base_of e (noA e d), d, r⟩
    have hKb : K.In (hidT s₁.heap H) := fun b o e => base_of (KX b o e) (by
      cases q : H b with
      | none => rfl
      | some u =>
        have e' : b = a := hA b (by rw [q]; simp)
        subst e'
        rw [hK (by rw [q]; simp)] at e; cases e)
    have hM : Mod K mg (hidT s₁.heap H) := ⟨hKb, nsK hns, ⟨mb, nsK hb, hbb⟩, let ⟨mc, h1, h2⟩ := hlim; ⟨mc, nsK h1, h2⟩⟩
    have e0 : Env0 P w K mg (hidT s₁.heap H) callerA [] s₁ H := ⟨rfl, hM, fun b o e => of_hidT e, Nat.le_of_eq (hidT_size _ _), trivial, fun b hb => absurd (show b ∈ ([] : List Addr) from hb) (by simp), hok, .of_eq hg⟩
    refine codeAny_mono ((F _ hKb (nsK hns)).run callerA [] s₁ H ⟨[.ref a], []⟩ [.ref a] [.ref a] _ _ hr e0 (hbind s₁ (.ref a)) (.cons rfl .nil) (hsp H hO hS)) fun r s' h => ?_
    cases r with
    | error e => exact (hCX H e s' h).elim
    | ok fl =>
      cases fl with
      | next => exact False.elim h
      | brk => exact False.elim h
      | cont => exact False.elim h
      | ret u =>
        obtain ⟨v, H', os, bare, un, hok', r', q⟩ := h
        have q' : v = .bl true := q
        subst q'
        obtain rfl : u = Value.bool true := r'
        refine ⟨rfl, OldK.of_keep fun b o e => ?_, os, bare⟩
        cases q : H b with
        | none => exact un.keep b o e q (by intro z; exact absurd (show b ∈ ([] : List Addr) from z) (by simp)) (by simp)
        | some u =>
          rcases hO b with z | ⟨ob, xs, z⟩
          · rw [q] at z; cases z
          · have z2 := un.frzs b ob _ z
            obtain ⟨e1, _⟩ := hok b _ z
            obtain ⟨e2, _⟩ := hok' b _ z2
            rw [e] at e1; cases e1
            exact e2
  cases hk : K.lookup a with
  | some o =>
    have e := KX a o hk
    rw [ha] at e
    cases e
    refine core (fun _ => none) (fun _ => .inl rfl) (.inr ⟨_, vs.toArray, _, hk, rfl, rfl, rfl, by rw [List.size_toArray, lenV]; exact hl, by simpa using rv⟩) (fun b u z => by have z' : (none : Option HO) = some u := z; cases z') (fun b z => absurd rfl z) fun z => absurd rfl z
  | none =>
    refine core (fun b => if b = a then some (.frz { cls := .type "list", data := .seq vs.toArray } (.lst (ns.map V.int))) else none) (fun b => ?_) (.inl (.inr ⟨{ cls := .type "list", data := .seq vs.toArray }, if_pos rfl⟩)) (fun b u z => ?_) (fun b z => ?_) fun _ => hk
    · by_cases hb : b = a
      · exact .inr ⟨_, _, if_pos hb⟩
      · exact .inl (if_neg hb)
    · by_cases hb : b = a
      · have z' := (if_pos hb).symm.trans z
        cases z'
        subst hb
        exact ⟨ha, by rw [List.length_map]; exact hl, vs, _, rv, ha⟩
      · have z' := (if_neg hb).symm.trans z
        cases z'
    · by_cases hb : b = a
      · exact hb
      · exact absurd (if_neg hb) z
end L2
namespace L2
open PySem PySem.Spec PyProof.Rows
abbrev KOf {K : PySem.W.Frag} {h : Heap} (_ : K.In h) : PySem.W.Frag := K
theorem walk_of {l : PySem.W.OpenLaw} {n k : Nat} {q : Program} {loose : List Str} {XP : (Str → Option Value) → Heap → Prop} {YP : World → Heap → Prop} {d : DefRec} {K : Params → PySem.W.Frag} {CX : World → CXT} {sp : World → Sp} {x : Str}
    (hn : l.most = some n) (hn2 : n ≤ sizeLine) (hdf : d.params.defaults = []) (hr : Room k callerA)
    (hY : ∀ (w : World) (h : Heap), YP w h → (K w.params).In h)
    (F : ∀ (w : World) (mg : Str → Option Value) (fa : Addr) (h : Heap), (K w.params).In h → h.Ns mainGlobals mg → mg d.name = some (.ref fa) →
      ∃ fd : FuncData, (∀ (s : Shared) (u : Value), BindsTo s fd ⟨[u], []⟩ [(x, u)]) ∧
        ∀ base : Heap, (K w.params).In base → base.Ns mainGlobals mg → FnOk l.prog w (K w.params) mg base (CX w) k fa fd [x] (sp w))
    (hsp : ∀ (w : World) (H : Hp) (a : Addr) (ns : List Int), ns.length ≤ n → Only H → SqL (K w.params) H a (ns.map V.int) → sp w [.ref a] H (fun v _ => v = .bl true) fun _ _ _ => False)
    (hCX : ∀ (w : World) (H : Hp) (s : Shared) (e : Value) (s' : Shared), CX w [] H s (fun _ _ _ => False) e s' → False) :
    PySem.W.WalkO q loose XP YP l.row.toRowW d [] (fun f vs => PySem.call f vs) := by
  refine Att.attach_call hn hdf fun w s₀ s₁ mg mb fa o pm cd doc a vs ns G Y ho hd hcd hmg hobj hints hlen hg => ?_
  have KX := hY w _ Y
  obtain ⟨fd, hb, hF⟩ := F w mg fa _ KX G.T.g hmg
  exact law_call KX G.T.g G.T.b G.T.builtins G.T.nolimit hg hobj hints (Nat.le_trans hlen hn2) hr hF hb (fun H hO hS => hsp w H a ns hlen hO hS) fun H e s' => hCX w H s₁ e s'
end L2
/- THE LAST THEOREM (shape; LID, My.* are yours):
   My.Adr: a structure of the addresses that your layer names (classes, functions); My.Txt K t: a structure (Prop) of the equations over K;
   My.txt_mk : {K} {implicit addresses ..} (e1 : nsIn K mainGlobals "law" = some (some (.ref f))) (e2 : K.lookup f = some ⟨oc, od, .func (fnOf "law" "law" params body scope dV kV doc pm an cdv ct), sl⟩) (e3 : codeIn K cdv "law" = true) .. : ∃ t, My.Txt K t
set_option maxRecDepth 100000 in
set_option maxHeartbeats 0 in
theorem PySem.Challenge.cw_LID_holds : PySem.Challenge.rw_LID.Holds := by
  w_on; o_law; k_head; (case hw => w_witness2)
  k_fill
  refine L2.walk_of (l := PySem.Challenge.rw_LID) (n := 63) (k := 40) (x := "script") (CX := fun w => ..) (sp := fun _ => My.sp_law) rfl (by decide) rfl ⟨rfl, by decide, by decide⟩ (fun w h Y => PySem.W.kIn_of Y) ?F ?S ?C
  case F =>
    intro w mg fa h KX G hmg
    have T : ∃ t, My.Txt (L2.KOf KX) t := by
      dsimp only [L2.KOf]                          -- K must stand as «<heap const> w.params» for k_is
      refine' My.txt_mk ?e1 ?e2 ?e3 ..
      (case e1 => PySem.W.k_is)                    -- in the order: a name -> its address -> its object -> its parts
      (case e2 => PySem.W.k_is)
      ..
    obtain ⟨t, T⟩ := T
    have e0 := hmg.symm.trans (PySem.W.mg_of KX G T.law)
    cases e0                                       -- fa is the law's own address
    exact ⟨_, fun s u => .of_eq rfl, fun base kb nb => My.law_fn T kb nb⟩     -- if «.of_eq rfl» comes too early: refine' ⟨_, ?b, fun base kb nb => My.law_fn T kb nb⟩; exact fun s u => .of_eq rfl
  case S => exact fun w H a ns hl hO hS => ..
  case C => exact ..
(the tactic k_is has no namespace: write k_is) -/
namespace L2
open PySem PySem.Spec PyProof.Rows
def inClass (s : Stmt) (j : Nat) : Stmt := match s with
  | .ClassDef _ _ _ body _ _ _ _ _ _ _ => body.getD j (.Pass ⟨0, 0, 0, 0⟩)
  | _ => .Pass ⟨0, 0, 0, 0⟩
def defArgs (s : Stmt) : Arguments := match s with
  | .FunctionDef _ a _ _ _ _ _ _ _ _ => a
  | _ => { posonlyargs := [], args := [], vararg := none, kwonlyargs := [], kw_defaults := [], kwarg := none, defaults := [] }
def defBody (s : Stmt) : List Stmt := match s with
  | .FunctionDef _ _ b _ _ _ _ _ _ _ => b
  | _ => []
def defScope (s : Stmt) : Scope := match s with
  | .FunctionDef _ _ _ _ _ _ sc _ _ _ => sc
  | _ => { kind := .function, names := [], isGenerator := false, isCoroutine := false }
abbrev CX0 : CXT := fun _ _ _ _ _ _ => False
abbrev E0 : XK := fun _ _ _ => False
theorem pass0 {X : Cx} : Passes CX0 X E0 := fun _ _ _ _ _ _ _ h => h.elim
structure Fun (K : PySem.W.Frag) (x qual : Str) (st : Stmt) (f : Addr) (fd : FuncData) : Prop where
  ex : ∃ (oc : Value) (od : Option Addr) (kV doc pm : Value) (an : Option Addr) (cdv ct : Value) (osl : Array (Option Value)),
    fd = PySem.W.fnOf x qual (defArgs st) (defBody st) (defScope st) .none kV doc pm an cdv ct ∧ K.lookup f = some ⟨oc, od, .func fd, osl⟩ ∧ PySem.W.codeIn K cdv qual = true
  kp : PySem.W.keepIn K (.ref f) = true
section
variable {P : Program} {w : World} {K : PySem.W.Frag} {mg : Str → Option Value} {base : Heap}
theorem Fun.ok {x qual : Str} {st : Stmt} {f : Addr} {fd : FuncData} {N ps : List Str} {k : Nat} {sp : Sp} (F : Fun K x qual st f fd) (S : FnScope N ps (defScope st)) (len : ∀ vs H Q E, sp vs H Q E → vs.length = ps.length)
    (hbody : ∀ (cdv : Value) (A : Around) (outer : List Env) (s : Shared) (H : Hp) (vs : List V) (Q : VK) (E : XK), Room k (A.deeper (envOfC qual (defScope st) s.heap.objs.size f cdv)) → sp vs H Q E →
      ∃ t, PSs (cxOf CX0 P w K mg base N qual (defScope st) f cdv A outer s H E).nox (defBody st) t ∧ t { nx := fun _ H' => Q .non H', rt := Q } (start N vs) H) : FnOk P w K mg base CX0 (k + 1) f fd ps sp := by
  obtain ⟨oc, od, kV, doc, pm, an, cdv, ct, osl, rfl, lk, hcd⟩ := F.ex
  refine fn_of lk hcd S len fun A outer s H vs Q E hr hsp => ?_
  obtain ⟨t, h, q⟩ := hbody cdv A outer s H vs Q E hr hsp
  exact ⟨t, h.nox, q⟩
theorem Fun.binds {x qual : Str} {st : Stmt} {f : Addr} {fd : FuncData} {ps : List Str} (F : Fun K x qual st f fd)
    (h : ∀ (kV doc pm : Value) (an : Option Addr) (cdv ct : Value) (us : List Value), us.length = ps.length → bindArgs (PySem.W.fnOf x qual (defArgs st) (defBody st) (defScope st) .none kV doc pm an cdv ct) ⟨us, []⟩ = pure (ps.zip us)) : Binds K fd ps [] := by
  obtain ⟨oc, od, kV, doc, pm, an, cdv, ct, osl, rfl, lk, hcd⟩ := F.ex
  exact .all (h kV doc pm an cdv ct)
theorem fun_mk {x qual : Str} {st : Stmt} {f : Addr} {oc : Value} {od an : Option Addr} {osl : Array (Option Value)} {kV doc pm cdv ct : Value} (l : K.lookup f = some ⟨oc, od, .func (PySem.W.fnOf x qual (defArgs st) (defBody st) (defScope st) .none kV doc pm an cdv ct), osl⟩)
    (c : PySem.W.codeIn K cdv qual = true) (k : PySem.W.keepIn K (.ref f) = true) : Fun K x qual st f (PySem.W.fnOf x qual (defArgs st) (defBody st) (defScope st) .none kV doc pm an cdv ct) := ⟨⟨oc, od, kV, doc, pm, an, cdv, ct, osl, rfl, l, c⟩, k⟩
end
section
variable {X : Cx}
end
def Same (H H' : Hp) : Prop := ∀ b o, H b = some o → H' b = some o
theorem Same.refl (H : Hp) : Same H H := fun _ _ h => h
theorem Same.trans {H H1 H2 : Hp} (a : Same H H1) (b : Same H1 H2) : Same H H2 := fun c o h => b c o (a c o h)
theorem Same.seq {K : PySem.W.Frag} {H H' : Hp} {a : Addr} {xs : List V} (e : Same H H') (h : SqL K H a xs) : SqL K H' a xs := by
  rcases h with (h | ⟨o, h⟩) | h
  · exact .inl (.inl (e _ _ h))
  · exact .inl (.inr ⟨o, e _ _ h⟩)
  · exact .inr h
end L2
namespace L2
open PySem PySem.Spec PyProof.Rows
section
variable {κ : Type} [DecidableEq κ]
end
section
variable {P : Program} {w : World} {H : Hp} {h : Heap} {a : Addr}
end
section
variable {X : Cx} {pins : List (Addr × Obj)} {σ : St} {H : Hp} {s : Shared} {a : Addr} {y v : V} {u r : Value} {o : Option V} {A : Around} {E : Value → Shared → Prop}
end
section
variable {X : Cx} {pins : List (Addr × Obj)} {σ : St} {H : Hp} {s : Shared} {a : Addr} {kvs : List (Key × V)} {k : Key} {u : Value} {A : Around} {E : Value → Shared → Prop}
end
section
variable {X : Cx} {o i e value : Expr} {pos pos' tpos : Pos} {td ty tv : TE}
end
section
variable {X : Cx} {pos : Pos}
end
def tPairs : List (TE × TE) → St → Hp → (List (V × V) → Hp → Prop) → Prop
  | [], _, H, Q => Q [] H
  | (tk, tv) :: r, σ, H, Q => tk σ H fun x H1 => tv σ H1 fun y H2 => tPairs r σ H2 fun ps H3 => Q ((x, y) :: ps) H3
abbrev VV : List (V × V) → List (Value × Value) → Prop := Paired fun p q => RelV p.1 q.1 ∧ RelV p.2 q.2
def PPs (X : Cx) (pos : Pos) (keys : List (Option Expr)) (values : List Expr) (trs : List (TE × TE)) : Prop :=
  ∀ (pins : List (Addr × Obj)) (s : Shared) (σ : St) (H : Hp) (Q : List (V × V) → Hp → Prop), Inv X pins σ H s → tPairs trs σ H Q →
    wpAny (model X.prog X.w) X.A (evalPairs (pairTrees keys values X.env pos)) (fun vs s' => ∃ ps H', Inv X pins σ H' s' ∧ VV ps vs ∧ Q ps H') X.xe s
structure M1 (X : Cx) (o : Expr) (m : Str) (apos : Pos) (e : Expr) (cpos : Pos) : Prop where
  base : attributeBase o m X.env (eval o X.env) = eval o X.env
  few : ((backTo cpos (starEach [e] X.env)).all (fun x => !x.1) && (backToKw cpos (keywordEach [] X.env)).all (fun x => x.1.isSome)
    && decide (([e] : List Expr).length + ([] : List Keyword).length + (if ([] : List Keyword).isEmpty then 0 else 1) < 30)) = true
  line : (apos.endLine == cpos.line) = true
  trees : backTo cpos (starEach [e] X.env) = [(false, eval e X.env)]
structure M2 (X : Cx) (o : Expr) (m : Str) (apos : Pos) (e f : Expr) (cpos : Pos) : Prop where
  base : attributeBase o m X.env (eval o X.env) = eval o X.env
  few : ((backTo cpos (starEach [e, f] X.env)).all (fun x => !x.1) && (backToKw cpos (keywordEach [] X.env)).all (fun x => x.1.isSome)
    && decide (([e, f] : List Expr).length + ([] : List Keyword).length + (if ([] : List Keyword).isEmpty then 0 else 1) < 30)) = true
  line : (apos.endLine == cpos.line) = true
  trees : backTo cpos (starEach [e, f] X.env) = [(false, eval e X.env), (false, eval f X.env)]
section
variable {X : Cx} {pins : List (Addr × Obj)} {σ : St} {H : Hp} {s : Shared} {a : Addr} {y d : V} {u r : Value} {o : Option V} {A : Around} {E : Value → Shared → Prop}
end
section
variable {X : Cx} {o e f : Expr} {apos cpos : Pos} {td ty tx : TE}
end
section
variable {X : Cx} {pins : List (Addr × Obj)} {σ : St} {H : Hp} {s : Shared} {a : Addr} {kvs : List (Key × V)} {A : Around} {E : Value → Shared → Prop}
end
section
variable {X : Cx} {pins : List (Addr × Obj)} {σ : St} {H : Hp} {s : Shared} {a : Addr} {y : V} {u : Value} {A : Around} {E : Value → Shared → Prop}
end
end L2
namespace L2
open PySem PySem.Spec PyProof.Rows
section
variable {X : Cx}
end
section
variable {κ : Type} [DecidableEq κ]
end
end L2
namespace L2
open PySem PySem.Spec PyProof.Rows
def closGo (cells : List (Str × Addr)) : List (Str × NameKind) → List (Str × Addr) → List (Str × Addr)
  | [], acc => acc
  | (n, k) :: r, acc => if k == .free then closGo cells r ((n, (cells.lookup n).getD 0) :: acc) else closGo cells r acc
def closOf (scope : Scope) (env : Env) : List (Str × Addr) := closGo env.cells scope.names []
theorem closureFor_eq {scope : Scope} {env : Env} (hf : ∀ y ∈ scope.names, y.2 = .free → ∃ c, env.cells.lookup y.1 = some c) : closureFor scope env = pure (closOf scope env) := by
  simp only [closureFor, closOf]
  generalize ([] : List (Str × Addr)) = acc
  generalize scope.names = names at hf
  induction names generalizing acc with
  | nil => rfl
  | cons y r ih =>
    obtain ⟨n, k⟩ := y
    have hr := fun a => ih a fun z hz => hf z (List.mem_cons_of_mem _ hz)
    by_cases hk : k = .free
    · obtain ⟨c, hc⟩ := hf (n, k) List.mem_cons_self hk
      have hc' : env.cells.lookup n = some c := hc
      subst hk
      simp only [List.forIn_cons, beq_self_eq_true, if_true, cellOf, hc', pure_bind, bind_assoc, closGo, Option.getD_some]
      exact hr _
    · have hb : (k == NameKind.free) = false := by simpa using hk
      simp only [List.forIn_cons, hb, Bool.false_eq_true, if_false, pure_bind, bind_assoc, closGo]
      exact hr _
theorem closGo_some {cells : List (Str × Addr)} {x : Str} {c : Addr} : ∀ {names : List (Str × NameKind)} {acc : List (Str × Addr)}, (closGo cells names acc).lookup x = some c → acc.lookup x = some c ∨ (∃ k, (x, k) ∈ names ∧ k = .free ∧ (cells.lookup x).getD 0 = c)
  | [], acc, h => .inl h
  | (n, k) :: r, acc, h => by
    unfold closGo at h
    by_cases hk : k = .free
    · subst hk
      simp only [beq_self_eq_true, if_true] at h
      rcases closGo_some h with z | ⟨k, hm, q⟩
      · rw [List.lookup_cons] at z
        by_cases hx : x = n
        · subst hx
          simp at z
          exact .inr ⟨.free, List.mem_cons_self, rfl, z⟩
        · have hb : (x == n) = false := by simpa using hx
          rw [hb] at z
          exact .inl z
      · exact .inr ⟨k, List.mem_cons_of_mem _ hm, q⟩
    · have hb : (k == NameKind.free) = false := by simpa using hk
      simp only [hb, Bool.false_eq_true, if_false] at h
      rcases closGo_some h with z | ⟨k, hm, q⟩
      · exact .inl z
      · exact .inr ⟨k, List.mem_cons_of_mem _ hm, q⟩
theorem closGo_has {cells : List (Str × Addr)} {x : Str} : ∀ {names : List (Str × NameKind)} {acc : List (Str × Addr)}, ((∃ c, acc.lookup x = some c) ∨ (x, NameKind.free) ∈ names) → ∃ c, (closGo cells names acc).lookup x = some c
  | [], acc, h => by
    rcases h with h | h
    · exact h
    · cases h
  | (n, k) :: r, acc, h => by
    unfold closGo
    by_cases hk : k = .free
    · subst hk
      simp only [beq_self_eq_true, if_true]
      refine closGo_has ?_
      by_cases hx : x = n
      · subst hx
        exact .inl ⟨(cells.lookup x).getD 0, by simp [List.lookup_cons]⟩
      · have hb : (x == n) = false := by simpa using hx
        rcases h with ⟨c, h⟩ | h
        · exact .inl ⟨c, by rw [List.lookup_cons, hb]; exact h⟩
        · rcases List.mem_cons.mp h with e | h
          · cases e; exact absurd rfl hx
          · exact .inr h
    · have hb : (k == NameKind.free) = false := by simpa using hk
      simp only [hb, Bool.false_eq_true, if_false]
      refine closGo_has ?_
      rcases h with h | h
      · exact .inl h
      · rcases List.mem_cons.mp h with e | h
        · cases e; exact absurd rfl hk
        · exact .inr h
def relabelS (scope sc0 : Scope) : List (Str × NameKind) :=
  scope.names.map fun (n, k) => if (k == .free && sc0.kind == .function && sc0.names.lookup n == some .cell) then (n, .cell) else (n, k)
theorem relabelS_cf {scope sc0 : Scope} (hc : ∀ y ∈ scope.names, y.2 ≠ .cell) {x : Str} {k : NameKind} (h : (relabelS scope sc0).lookup x = some k) (hk : k = .cell ∨ k = .free) : (x, NameKind.free) ∈ scope.names := by
  have hm := PySem.mem_of_lookup h
  unfold relabelS at hm
  obtain ⟨⟨n, k0⟩, h1, h2⟩ := List.mem_map.mp hm
  dsimp only at h2
  by_cases hb : (k0 == NameKind.free && sc0.kind == .function && sc0.names.lookup n == some .cell) = true
  · rw [if_pos hb] at h2
    have e : k0 = .free := by
      simp only [Bool.and_eq_true, beq_iff_eq] at hb
      exact hb.1.1
    cases h2
    rw [← e]; exact h1
  · rw [if_neg hb] at h2
    cases h2
    rcases hk with e | e
    · exact absurd e (hc _ h1)
    · rw [← e]; exact h1
def compN (N0 own : List Str) (cap : List Nat) : List Str := own ++ cap.map fun j => N0.getD j (Str.ofString "")
def compSt (own : List Str) (cap : List Nat) (σ : St) : St := own.map (fun _ => none) ++ cap.map fun j => (σ[j]?).join
def compOk (sc0 : Scope) (N0 : List Str) (scope : Scope) (own : List Str) (cap : List Nat) : Bool :=
  (scope.kind == .function) && scope.names.all (fun y => y.2 != .cell) && scope.names.all (fun y => y.2 != .local || scope.names.lookup y.1 == some .local) &&
  scope.names.all (fun y => y.2 != .free || sc0.names.lookup y.1 == some .cell || sc0.names.lookup y.1 == some .free) &&
  cap.all fun j => decide (j < N0.length) && scope.names.contains (N0.getD j (Str.ofString ""), NameKind.free) && ((relabelS scope sc0).lookup (N0.getD j (Str.ofString "")) == some .cell || (relabelS scope sc0).lookup (N0.getD j (Str.ofString "")) == some .free)
structure CompOk (sc0 : Scope) (N0 : List Str) (scope : Scope) (own : List Str) (cap : List Nat) : Prop where
  kind : scope.kind = .function
  nocell : ∀ y ∈ scope.names, y.2 ≠ .cell
  names : ∀ y ∈ scope.names, y.2 = .local → scope.names.lookup y.1 = some .local
  free : ∀ y ∈ scope.names, y.2 = .free → sc0.names.lookup y.1 = some .cell ∨ sc0.names.lookup y.1 = some .free
  cap : ∀ j ∈ cap, j < N0.length ∧ (N0.getD j (Str.ofString ""), NameKind.free) ∈ scope.names ∧ ((relabelS scope sc0).lookup (N0.getD j (Str.ofString "")) = some .cell ∨ (relabelS scope sc0).lookup (N0.getD j (Str.ofString "")) = some .free)
theorem CompOk.of {sc0 : Scope} {N0 : List Str} {scope : Scope} {own : List Str} {cap : List Nat} (h : compOk sc0 N0 scope own cap = true) : CompOk sc0 N0 scope own cap := by
  unfold compOk at h
  simp only [Bool.and_eq_true, List.all_eq_true, beq_iff_eq, bne_iff_ne, ne_eq, Bool.or_eq_true, decide_eq_true_eq, List.contains_iff_mem] at h
  obtain ⟨⟨⟨⟨h1, h2⟩, h3⟩, h4⟩, h5⟩ := h
  refine ⟨h1, h2, fun y hy e => ?_, fun y hy e => ?_, fun j hj => ?_⟩
  · rcases h3 y hy with z | z
    · exact absurd e z
    · exact z
  · rcases h4 y hy with (z | z) | z
    · exact absurd e z
    · exact .inl z
    · exact .inr z
  · obtain ⟨⟨a, b⟩, c⟩ := h5 j hj
    exact ⟨a, b, c⟩
def cxComp (X : Cx) (scope : Scope) (C : Addr) (N' : List Str) (s : Shared) (H : Hp) (ex : List Addr) : Cx where
  prog := X.prog
  w := X.w
  K := X.K
  mg := X.mg
  base := X.base
  A := X.A
  N := N'
  s₀ := s
  H₀ := H
  env := compEnvC scope (closOf scope X.env) C X.env
  outer := X.stack
  stack := X.stack
  ex := ex
  fn := fun _ => false
  calm := X.calm
  pn := []
  xe := fun _ _ => False
section
variable {X : Cx}
def PIfs (X : Cx) (ifs : List Expr) (t : TT) : Prop :=
  ∀ (pins : List (Addr × Obj)) (s : Shared) (σ : St) (H : Hp) (Q : Bool → Hp → Prop), Inv X pins σ H s → t σ H Q →
    wpAny (model X.prog X.w) X.A (forIn ifs true fun c r => if r = true then do let ok ← isTrue c X.env (eval c X.env); pure (ForInStep.yield ok) else pure (ForInStep.yield r)) (TP X pins σ Q) X.xe s
def tYes : TT := fun _ H Q => Q true H
theorem pifs_nil : PIfs X [] tYes := fun _ _ _ H _ I h => wpAny_tests_nil ⟨H, I, h⟩
end
def CompW (J : It) (g : TG) (tt : TT) (te : TE) (Q : List V → Hp → Prop) (σ0 : St) (H1 : Hp) : Prop :=
  ∃ W : Nat → Nat → List V → St → Hp → Prop, (∃ m, W 0 m [] σ0 H1) ∧ ∀ i m ys σ H, W i m ys σ H →
    (J.stop i H ∧ Q ys H) ∨ (J.go i H ∧ ys.length < sizeLine ∧ ∃ N : List V → St → Hp → Prop, (∀ ys σ' H', N ys σ' H' → ∃ m', m' < m ∧ W (i + 1) m' ys σ' H') ∧ ∀ x H', J.yld i H x H' → g x σ H' fun σ2 H2 => tt σ2 H2 fun b H3 =>
      if b = true then te σ2 H3 fun y H4 => N (ys ++ [y]) σ2 H4 else N ys σ2 H3)
def tComp (wi : TI) (own : List Str) (cap : List Nat) (g : TG) (tt : TT) (te : TE) : TE := fun σ H Q =>
  wi σ H fun J H1 => CompW J g tt te (fun ys H' => ys.length ≤ sizeLine ∧ ∀ p, H' p = none → Q (.ref p) (upd H' p (.lst ys))) (compSt own cap σ) H1
section
variable {prog : Program} {w : World} {A : Around} {R : Result → Shared → Prop} {s : Shared}
theorem codeAny_compLoop_go {elt target iter : Expr} {ifs : List Expr} {scope : Scope} {pos : Pos} {it acc : Value} {env : Env} (I : Nat → Shared → Prop)
    (turn : ∀ n s, I n s → wpAny (model prog w) A (pyNext it) (fun r s₁ => match r with
      | none => R (.ok .next) s₁
      | some v => wpAny (model prog w) A (letOwnedTupleGo target it v) (fun _ s₁' => wpAny (model prog w) A (assign target env v) (fun _ s₂ =>
          wpAny (model prog w) A (forIn ifs true fun c r => if r = true then do let ok ← isTrue c env (eval c env); pure (ForInStep.yield ok) else pure (ForInStep.yield r)) (fun ok s₃ =>
            if ok = true then wpAny (model prog w) A (eval elt env) (fun x s₄ =>
              wpAny (model prog w) A (call (.builtin "list.append") [acc, x]) (fun _ s₅ => ∃ m, m < n ∧ I m s₅) (fun _ _ => False) s₄) (fun _ _ => False) s₃
            else ∃ m, m < n ∧ I m s₃) (fun _ _ => False) s₂) (fun _ _ => False) s₁') (fun _ _ => False) s₁) (fun _ _ => False) s)
    (n : Nat) (h : I n s) :
    codeAny (model prog w) A (.compLoop (.ListComp elt [⟨target, iter, ifs, 0⟩] scope pos) 0 it acc env) R s := by
  refine codeAny_loop rfl I (fun n s hI => ?_) n h
  show wpAny _ A ((compTurn (.ListComp elt [⟨target, iter, ifs, 0⟩] scope pos) 0 it acc env).onRaise (fun x => do noteFrame x env; theTreesLotGoes x)) _ _ s
  refine wpAny_noted ?_
  rw [compTurn_list]
  refine wpAny_bind (wpAny_standAt (wpAny_bind (wpAny_mono (turn n s hI) (fun r s₁ h₁ => ?_) fun _ _ h' => h'.elim)))
  cases r with
  | none => exact wpAny_pure h₁
  | some v =>
    refine wpAny_bind (wpAny_mono h₁ (fun _ s₁' h₁' => ?_) fun _ _ h' => h'.elim)
    refine wpAny_bind (wpAny_mono h₁' (fun _ s₂ h₂ => wpAny_bind (wpAny_mono h₂ (fun ok s₃ h₃ => ?_) fun _ _ h' => h'.elim)) fun _ _ h' => h'.elim)
    cases ok with
    | false => exact wpAny_pure ⟨rfl, h₃⟩
    | true =>
      exact wpAny_bind (wpAny_bind (wpAny_mono h₃ (fun x s₄ h₄ => wpAny_bind (wpAny_mono h₄ (fun _ s₅ h₅ => wpAny_pure (wpAny_pure ⟨rfl, h₅⟩)) fun _ _ h' => h'.elim)) fun _ _ h' => h'.elim))
end
section
variable {X : Cx} {pins : List (Addr × Obj)} {σ : St} {s2 : Shared} {H2 : Hp} {elt tg iter : Expr} {ifs : List Expr} {scope : Scope} {pos : Pos} {g : TG} {tt : TT} {te : TE} {sc0 : Scope} {N0 own : List Str} {cap : List Nat}
  {it : Addr} {fp : List Addr} {tn : Nat → Heap → Prop} {J : It}
theorem clos_has (I2 : Inv X pins σ H2 s2) (hsc : X.env.scope = sc0) (ok : CompOk sc0 N0 scope own cap) : ∀ y ∈ scope.names, y.2 = .free → ∃ c, X.env.cells.lookup y.1 = some c := fun y hy e => by
  refine I2.ok.has y.1 ?_
  have q := ok.free y hy e
  rw [← hsc] at q
  exact q
theorem clos_lookup (I2 : Inv X pins σ H2 s2) (hsc : X.env.scope = sc0) (ok : CompOk sc0 N0 scope own cap) {x : Str} {c : Addr} (h : (closOf scope X.env).lookup x = some c) : X.env.cells.lookup x = some c := by
  rcases closGo_some h with z | ⟨k, hm, hk, q⟩
  · simp at z
  · obtain ⟨c', e⟩ := clos_has I2 hsc ok (x, k) hm hk
    have e' : X.env.cells.lookup x = some c' := e
    rw [e'] at q
    rw [e', ← q]; rfl
theorem comp_cxOk (I2 : Inv X pins σ H2 s2) (hsc : X.env.scope = sc0) (ok : CompOk sc0 N0 scope own cap) (T : Turn X.prog X.w X.K tg J fp it tn) (st2 : tn 0 s2.heap) (f2 : ∀ b ∈ fp, FpOk X pins H2 b)
    (C : Addr) (hC : s2.heap.objs.size ≤ C) : (cxComp X scope C (compN N0 own cap) s2 H2 fp).Ok := by
  have lt : ∀ b ∈ fp, b < s2.heap.objs.size := fun b hb => by
    obtain ⟨o, e, _⟩ := T.obj 0 _ st2 b hb
    exact Heap.lt_size e
  have rel : (relabel scope X.env).names = relabelS scope sc0 := by rw [← hsc]; rfl
  refine ⟨I2.ok.mod, ok.kind, I2.ok.glob, I2.ok.blt, hC, fun x y c h1 h2 => ?_, fun x hx => ?_, fun x c hf _ => absurd hf (by simp [cxComp]), I2.ok.hd, I2.ok.frames, .inl rfl, fun b hb => ⟨?_, fun x c h => ?_⟩, I2.bs, Nat.le_trans I2.ok.bsz I2.sz,
    fun b o e hb => ?_, fun b hb hz => ?_, I2.stack, I2.stkFree⟩
  · exact I2.ok.inj x y c (clos_lookup I2 hsc ok h1) (clos_lookup I2 hsc ok h2)
  · have hx' : (relabelS scope sc0).lookup x = some .cell ∨ (relabelS scope sc0).lookup x = some .free := by rw [← rel]; exact hx
    have hm : (x, NameKind.free) ∈ scope.names := by
      rcases hx' with q | q
      · exact relabelS_cf ok.nocell q (.inl rfl)
      · exact relabelS_cf ok.nocell q (.inr rfl)
    exact closGo_has (.inr hm)
  · exact Nat.ne_of_lt (Nat.lt_of_lt_of_le (lt b hb) hC)
  · exact (f2 b hb).2.2.2.2.1 x c (clos_lookup I2 hsc ok h)
  · rcases (f2 b hb).2.2.2.1 with z | z
    · exact I2.ok.noex b o e z
    · exact absurd (Nat.lt_of_lt_of_le (Heap.lt_size e) (Nat.le_trans I2.ok.bsz z)) (Nat.lt_irrefl _)
  · rcases List.mem_cons.mp (I2.stkSub b hz) with z | z
    · exact (f2 b hb).2.1 z
    · exact (f2 b hb).2.2.1 z
theorem comp_inv (I2 : Inv X pins σ H2 s2) (hsc : X.env.scope = sc0) (hN0 : X.N = N0) (ok : CompOk sc0 N0 scope own cap) (T : Turn X.prog X.w X.K tg J fp it tn) (st2 : tn 0 s2.heap) (f2 : ∀ b ∈ fp, FpOk X pins H2 b)
    (C : Addr) (hC : s2.heap.objs.size ≤ C) {h₁ : Heap} {tk : Nat} {m : Str → Option Value} (old : ∀ b o, s2.heap.get? b = some o → h₁.get? b = some o) (hns : h₁.Ns C m) :
    Inv (cxComp X scope C (compN N0 own cap) s2 H2 fp) [] (compSt own cap σ) H2 { s2 with heap := h₁, toks := tk } := by
  have rel : (relabel scope X.env).names = relabelS scope sc0 := by rw [← hsc]; rfl
  refine ⟨comp_cxOk I2 hsc ok T st2 f2 C hC, rfl, I2.bare, Un.kept old, ⟨m, hns, fun i x v e1 e2 _ => ?_⟩, fun x c h => ?_, I2.hok.fresh hC, fun x c h => ?_, fun p hp => absurd (show p ∈ ([] : List (Addr × Obj)) from hp) (by simp), I2.hok.kept old, ?_⟩
  · have e1' : (compN N0 own cap)[i]? = some x := e1
    unfold compN at e1'
    unfold compSt at e2
    by_cases hi : i < own.length
    · rw [List.getElem?_append_left (by simpa using hi), List.getElem?_map] at e2
      cases q : own[i]? with
      | none => rw [q] at e2; cases e2
      | some z => rw [q] at e2; cases e2
    · rw [List.getElem?_append_right (by simpa using hi), List.getElem?_map] at e2
      rw [List.getElem?_append_right (by simpa using hi), List.getElem?_map] at e1'
      rw [List.length_map] at e2
      cases q : cap[i - own.length]? with
      | none => rw [q] at e2; cases e2
      | some j =>
        rw [q] at e1' e2
        have ex : N0.getD j (Str.ofString "") = x := Option.some.inj e1'
        have ev : (σ[j]?).join = some v := Option.some.inj e2
        obtain ⟨hj, hm, hk⟩ := ok.cap j (List.mem_of_getElem? q)
        rw [ex] at hm hk
        have eN : X.N[j]? = some x := by
          rw [hN0, List.getElem?_eq_getElem hj]
          rw [List.getD_eq_getElem?_getD, List.getElem?_eq_getElem hj] at ex
          exact congrArg some ex
        have eσ : σ[j]? = some (some v) := by
          cases z : σ[j]? with
          | none => rw [z] at ev; cases ev
          | some o => rw [z] at ev; cases o with
            | none => cases ev
            | some y => exact congrArg some ev
        have kf : X.env.kindOf x = some .cell ∨ X.env.kindOf x = some .free := by
          have z := ok.free _ hm rfl
          rw [← hsc] at z
          exact z
        obtain ⟨m0, hn0, hl⟩ := I2.loc
        obtain ⟨u, r, l⟩ := hl j x v eN eσ (kf.elim (fun z => .inr (.inl z)) fun z => .inr (.inr z))
        refine ⟨u, r, .inr ⟨?_, ?_⟩⟩
        · show (relabel scope X.env).names.lookup x = _ ∨ (relabel scope X.env).names.lookup x = _
          rw [rel]; exact hk
        · rcases l with ⟨l, _⟩ | ⟨_, c, hc, ⟨o, ho, hd⟩⟩
          · rcases kf with z | z <;> (rw [z] at l; cases l)
          · obtain ⟨c', hc'⟩ := closGo_has (cells := X.env.cells) (names := scope.names) (acc := []) (.inr hm)
            have z := clos_lookup I2 hsc ok hc'
            rw [hc] at z
            cases z
            exact ⟨c, hc', o, old _ _ ho, hd⟩
  · obtain ⟨v, o, ho, hd⟩ := I2.cell x c (clos_lookup I2 hsc ok h)
    exact ⟨v, o, old _ _ ho, hd⟩
  · exact I2.freeC x c (clos_lookup I2 hsc ok h)
  · show (compSt own cap σ).length = (compN N0 own cap).length
    unfold compSt compN
    simp
theorem comp_block {Q : List V → Hp → Prop} {RR : Value → Addr → Result → Shared → Prop} {E : Value → Shared → Prop} (hc : X.calm = true) (I2 : Inv X pins σ H2 s2) (hsc : X.env.scope = sc0) (hN0 : X.N = N0) (ok : CompOk sc0 N0 scope own cap)
    (hg : ∀ C s H ex, PG (cxComp X scope C (compN N0 own cap) s H ex) tg g) (ht : ∀ C s H ex, PIfs (cxComp X scope C (compN N0 own cap) s H ex) ifs tt) (he : ∀ C s H ex, PE (cxComp X scope C (compN N0 own cap) s H ex) elt te)
    (T : Turn X.prog X.w X.K tg J fp it tn) (st2 : tn 0 s2.heap) (f2 : ∀ b ∈ fp, FpOk X pins H2 b) (hW : CompW J g tt te Q (compSt own cap σ) H2)
    (hRR : ∀ D C oC ys H' s', Inv X (pins ++ [(C, oC)]) σ (upd H' D (.lst ys)) s' → (∀ h : Heap, h.get? C = some oC → ∃ m, h.Ns C m) → FpOk X pins (upd H' D (.lst ys)) C → H' D = none → Q ys H' → RR (.ref D) C (.ok .next) s')
    (hQsz : ∀ ys H', Q ys H' → ys.length ≤ sizeLine) :
    wpAny (model X.prog X.w) X.A (newList []) (fun acc s₃ => wpAny (model X.prog X.w) X.A (newFunctionEnv scope X.env.globals (closOf scope X.env) [] X.env.qual none .none (some X.env)) (fun cenv s₄ =>
      codeAny (model X.prog X.w) X.A (.compStart (.ListComp elt [⟨tg, iter, ifs, 0⟩] scope pos) 0 (.ref it) acc { cenv with scope := relabel scope X.env }) (RR acc cenv.locals) s₄) E s₃) E s2 := by
  refine wpAny_newObj_type (wpAny_newFunctionEnv ok.nocell (by intro y hy; simp at hy) (fun h₁ hns₁ hsb₁ => ?_) ok.kind)
  dsimp only at hns₁ hsb₁ ⊢
  generalize hP2 : s2.heap.push { cls := .type "list", dict := none, data := .seq ([] : List Value).toArray } = P2 at hns₁ hsb₁ ⊢
  have hC : P2.objs.size = s2.heap.objs.size + 1 := by rw [← hP2, Heap.size_push]
  have hDC : s2.heap.objs.size ≠ P2.objs.size := by rw [hC]; exact Nat.ne_of_lt (Nat.lt_succ_self _)
  have hCle : s2.heap.objs.size ≤ P2.objs.size := by rw [hC]; exact Nat.le_succ _
  have below : ∀ b, b < s2.heap.objs.size → b ≠ P2.objs.size ∧ b ≠ s2.heap.objs.size := fun b hb => ⟨by rw [hC]; exact Nat.ne_of_lt (Nat.lt_succ_of_lt hb), Nat.ne_of_lt hb⟩
  have ltf : ∀ b ∈ fp, b < s2.heap.objs.size := fun b hb => by
    obtain ⟨o, e, _⟩ := T.obj 0 _ st2 b hb
    exact Heap.lt_size e
  have old : ∀ b o, s2.heap.get? b = some o → h₁.get? b = some o := fun b o e => hsb₁.extBut b o (below b (Heap.lt_size e)).1 (Heap.get?_push_of_some _ (hP2 ▸ Heap.get?_push_of_some _ e))
  have hacc : h₁.PlainList s2.heap.objs.size #[] := ⟨_, hsb₁.extBut _ _ hDC (Heap.get?_push_of_some _ (hP2 ▸ Heap.get?_push_size _ rfl))⟩
  have st₁ : tn 0 h₁ := T.keep _ _ _ st2 fun b _ o e => old b o e
  have hDno : ∀ b ∈ fp, s2.heap.objs.size ≠ b := fun b hb => (below b (ltf b hb)).2.symm
  generalize hXe : cxComp X scope P2.objs.size (compN N0 own cap) s2 H2 fp = X'
  have loop : ∀ s₃ : Shared, s₃ = { s2 with heap := h₁, toks := s2.toks + ([] : List (Str × Value)).length } →
      codeAny (model X.prog X.w) X.A (.compLoop (.ListComp elt [⟨tg, iter, ifs, 0⟩] scope pos) 0 (.ref it) (.ref s2.heap.objs.size) (compEnvC scope (closOf scope X.env) P2.objs.size X.env))
        (RR (.ref s2.heap.objs.size) P2.objs.size) s₃ := by
    rintro s₃ rfl
    obtain ⟨W, ⟨m0, w0⟩, turn⟩ := hW
    subst hXe
    have stat : ∀ {H' : Hp} {oD : Obj}, (∀ b ∈ fp, H' b = none) → ∀ b ∈ fp, FpOk (cxComp X scope P2.objs.size (compN N0 own cap) s2 H2 fp) [(s2.heap.objs.size, oD)] H' b := fun {H' oD} hn b hb =>
      ⟨hn b hb, (below b (ltf b hb)).1, fun z => by
        rcases List.mem_cons.mp (I2.stkSub b z) with z | z
        · exact (f2 b hb).2.1 z
        · exact (f2 b hb).2.2.1 z, .inl hb, fun x c h => (f2 b hb).2.2.2.2.1 x c (clos_lookup I2 hsc ok h), fun p hp => by
        have e : p = (s2.heap.objs.size, oD) := by simpa [cxComp] using hp
        rw [e]; exact hDno b hb⟩
    have notcell : ∀ x c, (closOf scope X.env).lookup x = some c → c ≠ s2.heap.objs.size := fun x c h z => by
      obtain ⟨v, o, ho, hd⟩ := I2.cell x c (clos_lookup I2 hsc ok h)
      exact absurd (Heap.lt_size ho) (by rw [z]; exact Nat.lt_irrefl _)
    have nofs : s2.heap.objs.size ∉ frs X.stack := fun z => by
      rcases List.mem_cons.mp (I2.stkSub _ z) with z | z
      · exact absurd I2.lt (by rw [z]; exact Nat.lt_irrefl _)
      · exact I2.nofs (Nat.le_refl _) z
    have pinD : ∀ {σ' : St} {H' : Hp} {s' : Shared} {its : Array Value} {k : Nat}, Inv (cxComp X scope P2.objs.size (compN N0 own cap) s2 H2 fp) [] σ' H' s' → H' s2.heap.objs.size = none →
        s'.heap.get? s2.heap.objs.size = some { cls := .type "list", data := .seq its k } → Inv (cxComp X scope P2.objs.size (compN N0 own cap) s2 H2 fp) [(s2.heap.objs.size, { cls := .type "list", data := .seq its k })] σ' H' s' :=
      fun {σ' H' s' its k} I hn hd => I.pins_of fun p hp => by
        have e : p = (s2.heap.objs.size, { cls := .type "list", data := .seq its k }) := by simpa using hp
        subst e
        exact ⟨hd, hn, hDC, nofs, fun v z => by cases z⟩
    obtain ⟨k0, hk0⟩ := hacc
    refine codeAny_compLoop_go (env := compEnvC scope (closOf scope X.env) P2.objs.size X.env)
      (fun n s' => ∃ i ys its k σ' H', Inv (cxComp X scope P2.objs.size (compN N0 own cap) s2 H2 fp) [(s2.heap.objs.size, { cls := .type "list", data := .seq its k })] σ' H' s' ∧ tn i s'.heap ∧ (∀ b ∈ fp, H' b = none) ∧ Vals ys its.toList ∧ W i n ys σ' H') ?_ m0
      ⟨0, [], #[], k0, _, H2, pinD (comp_inv I2 hsc hN0 ok T st2 f2 _ hCle old hns₁) (I2.hok.fresh (Nat.le_refl _)) hk0, st₁, fun b hb => (f2 b hb).1, .nil, w0⟩
    rintro n s3 ⟨i, ys, its, k, σ3, H3, I3, st3, fr3, hv, w3⟩
    rcases turn i n ys σ3 H3 w3 with ⟨stop, qn⟩ | ⟨go, hsz, N, hN, step⟩
    · refine thn (T.done (cxComp X scope P2.objs.size (compN N0 own cap) s2 H2 fp) rfl rfl rfl hc i _ s3 σ3 H3 _ I3 (stat fr3) st3 stop) fun r s4 ⟨hr, I4⟩ => ?_
      subst hr
      show RR _ _ (.ok .next) s4
      obtain ⟨hd4, hn4, _⟩ := I4.pin (s2.heap.objs.size, { cls := .type "list", data := .seq its k }) (by simp [cxComp])
      dsimp only at hd4 hn4
      obtain ⟨m4, hns4, _⟩ := id I4.loc
      have hns4' : s4.heap.Ns P2.objs.size m4 := hns4
      obtain ⟨oC, es, ep, hoC, rC⟩ := id hns4'
      have cne : P2.objs.size ≠ s2.heap.objs.size := hDC.symm
      have freeC : H3 P2.objs.size = none := I4.free
      have hchC : FpOk X pins (upd H3 s2.heap.objs.size (.lst ys)) P2.objs.size := I2.fpOk hCle (by rw [upd_ne cne]; exact freeC)
      have hlen : ys.length = its.size := by have e := hv.length; simpa using e
      have I5 : Inv X pins σ (upd H3 s2.heap.objs.size (.lst ys)) s4 := by
        refine I2.call' (ch := fp) I4.os ⟨I4.base.keep, I4.base.slot, fun b o e n hx => ?_, I4.base.there, fun b xs e => ?_, fun b o u e => ?_, fun b ps e => ?_⟩ (fun b u e => ?_) I4.bare fun b hb => ?_
        · rw [upd_ne (Nat.ne_of_lt (Heap.lt_size e))]; exact I4.base.free b o e n hx
        · have q := I4.base.tups b xs e
          rw [upd_ne (ne_of_none q hn4)]; exact q
        · have q := I4.base.frzs b o u e
          rw [upd_ne (ne_of_none q hn4)]; exact q
        · obtain ⟨more, q⟩ := I4.base.tbls b ps e
          exact ⟨more, by rw [upd_ne (ne_of_none q hn4)]; exact q⟩
        · by_cases hb : b = s2.heap.objs.size
          · subst hb
            rw [upd_same] at e
            cases e
            exact ⟨hQsz ys H3 qn, its.toList, k, hv, by simpa using hd4⟩
          · rw [upd_ne hb] at e
            exact (I4.hok b u e).stay (fun _ _ _ q => q) (fun c q => by rw [upd_ne (ne_of_none q hn4)]; exact q) fun c xs q => by rw [upd_ne (ne_of_none q hn4)]; exact q
        · obtain ⟨_, a2, _, a4, a5, a6⟩ := f2 b hb
          exact ⟨a4, a2, a5, a6⟩
      refine hRR s2.heap.objs.size P2.objs.size oC ys H3 s4 (I5.pins_of fun p hp => ?_) (fun h e => ⟨m4, oC, es, ep, e, rC⟩) hchC hn4 qn
      rcases List.mem_append.mp hp with z | z
      · exact I5.pin p (List.mem_append_right _ z)
      · have e : p = (P2.objs.size, oC) := by simpa using z
        subst e
        exact ⟨hoC, hchC.1, hchC.2.1, hchC.2.2.1, fun v z => by
          have := rC.1
          rw [this] at z; cases z⟩
    · refine thn (T.item (cxComp X scope P2.objs.size (compN N0 own cap) s2 H2 fp) rfl rfl rfl hc i _ s3 σ3 H3 _ I3 (stat fr3) st3 go) fun r s4 ⟨u, hr, h4⟩ => ?_
      subst hr
      refine thn h4 fun _ s5 ⟨x, H5, I5, r5, y5, st5, fr5⟩ => ?_
      have I5' := I5.pinned (stat fr5) (T.obj _ _ st5)
      refine thn (hg _ _ _ _ _ s5 σ3 H5 x u _ I5' r5 (step x H5 y5)) fun _ s6 ⟨σ6, H6, I6, q6⟩ => ?_
      refine thn (ht _ _ _ _ _ s6 σ6 H6 _ I6 q6) fun b s7 ⟨H7, I7, q7⟩ => ?_
      have keepT : ∀ {σ' : St} {H' : Hp} {s' : Shared}, Inv (cxComp X scope P2.objs.size (compN N0 own cap) s2 H2 fp) ([(s2.heap.objs.size, { cls := .type "list", data := .seq its k })] ++ pinsAt fp s5.heap) σ' H' s' → tn (i + 1) s'.heap ∧ ∀ b ∈ fp, H' b = none := fun {σ' H' s'} I' => by
        refine ⟨T.keep _ _ _ st5 fun b hb o e => (I'.pin (b, o) (List.mem_append_right _ (List.mem_append_right _ (mem_pinsAt hb e)))).1, fun b hb => ?_⟩
        obtain ⟨o, e, d⟩ := T.obj _ _ st5 b hb
        exact (I'.pin (b, o) (List.mem_append_right _ (List.mem_append_right _ (mem_pinsAt hb e)))).2.1
      cases b with
      | false =>
        rw [if_neg Bool.false_ne_true] at q7 ⊢
        obtain ⟨m', hm, w7⟩ := hN _ _ _ q7
        obtain ⟨a, b⟩ := keepT I7
        exact ⟨m', hm, i + 1, ys, its, k, σ6, H7, I7.unpinned, a, b, hv, w7⟩
      | true =>
        rw [if_pos rfl] at q7 ⊢
        refine thn (he _ _ _ _ _ s7 σ6 H7 _ I7 q7) fun v s8 ⟨y, H8, I8, r8, q8⟩ => ?_
        obtain ⟨m', hm, w8⟩ := hN _ _ _ q8
        obtain ⟨a, b⟩ := keepT I8
        obtain ⟨hd8, hn8, _⟩ := I8.pin (s2.heap.objs.size, { cls := .type "list", data := .seq its k }) (by simp [cxComp])
        dsimp only at hd8 hn8
        have hl : its.size ≤ sizeLine := by
          have e := hv.length
          simp at e
          omega
        refine wpAny_list_append_plain (hsz := hl) ⟨k, hd8⟩ fun h9 hl9 hs9 => ?_
        obtain ⟨k9, hd9⟩ := hl9
        have I8' : Inv (cxComp X scope P2.objs.size (compN N0 own cap) s2 H2 fp) [] σ6 H8 s8 := I8.pins_of fun p hp => absurd hp (by simp)
        have I9 : Inv (cxComp X scope P2.objs.size (compN N0 own cap) s2 H2 fp) [] σ6 H8 { s8 with heap := h9 } :=
          I8'.turned (t' := s8.toks) (it := s2.heap.objs.size) (fun b o hb e => hs9.extBut b o hb e) hn8 hDC (.inr (Nat.le_refl _)) notcell (fun p hp => absurd (show p ∈ ([] : List (Addr × Obj)) from hp) (by simp))
        refine ⟨m', hm, i + 1, ys ++ [y], its.push v, k9, σ6, H8, pinD I9 hn8 hd9, T.keep _ _ _ a fun b hb o e => hs9.extBut b o (hDno b hb).symm e, b, ?_, w8⟩
        rw [Array.toList_push]
        exact hv.append (.cons r8 .nil)
  exact codeAny_compStart_list (loop _ rfl) (T.self _ 0 _ _ _ st₁ (loop _ rfl))
theorem pe_comp {wi : TI} (sc0 : Scope) (N0 own : List Str) (cap : List Nat) (hc : X.calm = true) (hi : PI X tg iter wi)
    (hg : ∀ C s H ex, PG (cxComp X scope C (compN N0 own cap) s H ex) tg g) (ht : ∀ C s H ex, PIfs (cxComp X scope C (compN N0 own cap) s H ex) ifs tt) (he : ∀ C s H ex, PE (cxComp X scope C (compN N0 own cap) s H ex) elt te)
    (hsc : X.env.scope = sc0 := by rfl) (hN0 : X.N = N0 := by rfl) (ok : compOk sc0 N0 scope own cap = true := by decide +kernel) (hs : ∀ x, foldedSetIterable iter X.env x = pure x := by intro _; rfl) :
    PE X (.ListComp elt [⟨tg, iter, ifs, 0⟩] scope pos) (tComp wi own cap g tt te) := by
  intro pins s σ H Q I h
  have ok := CompOk.of ok
  rw [eval_ListComp]
  refine wpAny_comprehension_free (use := none) rfl hs (closureFor_eq (clos_has I hsc ok)) ok.kind ok.names (thn (hi pins s σ H _ I h) fun xv s1 h1 => thn h1 fun itv s2 h2 => ?_)
  obtain ⟨it, fp, tn, J, H2, e, I2, T, st2, f2, hW⟩ := h2
  subst e
  refine comp_block (RR := fun acc C => compPost (model X.prog X.w) X.A X.xe none (EP X pins σ Q) acc C) hc I2 hsc hN0 ok hg ht he T st2 f2 hW (fun D C oC ys H' s' I' hns fpC hD q => ?_) fun ys H' q => q.1
  obtain ⟨hC, hCn, _⟩ := I'.pin (C, oC) (by simp)
  obtain ⟨m, hm⟩ := hns _ hC
  refine ⟨m, hm, fun h' hs' => ⟨.ref D, upd H' D (.lst ys), ?_, rfl, q.2 D hD⟩⟩
  obtain ⟨f0, f1, f2', f3, f4, f5⟩ := fpC
  exact I'.unpinned.turned (t' := s'.toks) (it := C) (fun b o hb e => hs'.extBut b o hb e) f0 f1 f3 f4 f5
end
end L2
namespace L2
open PySem PySem.Spec PyProof.Rows
def Can (P : Program) (w : World) (K : PySem.W.Frag) (mg : Str → Option Value) (base : Heap) (x : Str) (ps : List Str) (k : Nat) (sp : Sp) : Prop :=
  ∃ f fd, mg x = some (.ref f) ∧ PySem.W.keepIn K (.ref f) = true ∧ Binds K fd ps [] ∧ FnOk P w K mg base CX0 k f fd ps sp ∧ ∃ oc od osl, K.lookup f = some ⟨oc, od, .func fd, osl⟩
def Def (K : PySem.W.Frag) (mg : Str → Option Value) (x : Str) (st : Stmt) : Prop := ∃ f fd, mg x = some (.ref f) ∧ Fun K x x st f fd
section
variable {P : Program} {w : World} {K : PySem.W.Frag} {mg : Str → Option Value} {base : Heap}
theorem Def.can {x : Str} {st : Stmt} {N ps : List Str} {k : Nat} {sp : Sp} (D : Def K mg x st) (S : FnScope N ps (defScope st))
    (hb : ∀ (kV doc pm : Value) (an : Option Addr) (cdv ct : Value) (us : List Value), us.length = ps.length → bindArgs (PySem.W.fnOf x x (defArgs st) (defBody st) (defScope st) .none kV doc pm an cdv ct) ⟨us, []⟩ = pure (ps.zip us))
    (len : ∀ vs H Q E, sp vs H Q E → vs.length = ps.length)
    (hbody : ∀ (f : Addr) (cdv : Value) (A : Around) (outer : List Env) (s : Shared) (H : Hp) (vs : List V) (Q : VK) (E : XK), Room k (A.deeper (envOfC x (defScope st) s.heap.objs.size f cdv)) → sp vs H Q E →
      ∃ t, PSs (cxOf CX0 P w K mg base N x (defScope st) f cdv A outer s H E).nox (defBody st) t ∧ t { nx := fun _ H' => Q .non H', rt := Q } (start N vs) H) : Can P w K mg base x ps (k + 1) sp := by
  obtain ⟨f, fd, hm, F⟩ := D
  obtain ⟨oc, od, _, _, _, _, _, _, osl, _, lk, _⟩ := F.ex
  exact ⟨f, fd, hm, F.kp, F.binds hb, F.ok S len fun cdv A outer s H vs Q E hr h => hbody f cdv A outer s H vs Q E hr h, oc, od, osl, lk⟩
end
section
variable {X : Cx} {k : Nat} {x : Str} {ps : List Str} {sp : Sp} {p pos : Pos} {e : Expr} {es : List Expr} {t : TA}
theorem pe_can (C : Can X.prog X.w X.K X.mg X.base x ps k sp) (hr : Room k X.A) (ha : PA X (e :: es) t) (hg : Gl X x := by rfl) (hdb : (x == ("__debug__" : Str)) = false := by decide)
    (he : starEach (e :: es) X.env = (false, eval e X.env) :: starEach es X.env := by rfl) (hpl : (backTo pos (starEach es X.env)).any (·.1) = false := by rfl) :
    PE X (.Call (.Name x p) (e :: es) [] pos) (tCall sp [] E0 t) := by
  obtain ⟨f, fd, hm, hk, hb, F, _⟩ := C
  exact pe_call F hr hg hm hk hb .nil pass0 ha hdb he hpl
end
theorem Same.seqT {K : PySem.W.Frag} {H H' : Hp} {a : Addr} {xs : List V} (e : Same H H') (h : SqT K H a xs) : SqT K H' a xs := by
  rcases h with (h | ⟨o, h⟩) | h
  · exact .inl (.inl (e _ _ h))
  · exact .inl (.inr ⟨o, e _ _ h⟩)
  · exact .inr h
mutual
def Rep (K : PySem.W.Frag) (H : Hp) : V → PyData → Prop
  | v, .none => v = .non
  | v, .bool b => v = .bl b
  | v, .int i => v = .int i
  | v, .str x => v = .str x
  | v, .list ds => ∃ a xs, v = .ref a ∧ SqL K H a xs ∧ Reps K H xs ds
  | v, .tuple ds => ∃ a xs, v = .ref a ∧ SqT K H a xs ∧ Reps K H xs ds
  | _, .dict _ => False
def Reps (K : PySem.W.Frag) (H : Hp) : List V → List PyData → Prop
  | xs, [] => xs = []
  | xs, d :: ds => ∃ x r, xs = x :: r ∧ Rep K H x d ∧ Reps K H r ds
end
mutual
theorem Rep.mono {K : PySem.W.Frag} {H H' : Hp} (e : Same H H') : ∀ (d : PyData) {v : V}, Rep K H v d → Rep K H' v d
  | .none, v, h => by rw [Rep] at h ⊢; exact h
  | .bool b, v, h => by rw [Rep] at h ⊢; exact h
  | .int i, v, h => by rw [Rep] at h ⊢; exact h
  | .str x, v, h => by rw [Rep] at h ⊢; exact h
  | .list ds, v, h => by
    rw [Rep] at h ⊢
    obtain ⟨a, xs, h1, h2, h3⟩ := h
    exact ⟨a, xs, h1, e.seq h2, Reps.mono e ds h3⟩
  | .tuple ds, v, h => by
    rw [Rep] at h ⊢
    obtain ⟨a, xs, h1, h2, h3⟩ := h
    exact ⟨a, xs, h1, e.seqT h2, Reps.mono e ds h3⟩
  | .dict _, v, h => by rw [Rep] at h; exact h.elim
theorem Reps.mono {K : PySem.W.Frag} {H H' : Hp} (e : Same H H') : ∀ (ds : List PyData) {xs : List V}, Reps K H xs ds → Reps K H' xs ds
  | [], xs, h => by rw [Reps] at h ⊢; exact h
  | d :: ds, xs, h => by
    rw [Reps] at h ⊢
    obtain ⟨x, r, h1, h2, h3⟩ := h
    exact ⟨x, r, h1, Rep.mono e d h2, Reps.mono e ds h3⟩
end
theorem Reps.nil {K : PySem.W.Frag} {H : Hp} : Reps K H [] [] := by rw [Reps]
theorem Reps.cons {K : PySem.W.Frag} {H : Hp} {x : V} {xs : List V} {d : PyData} {ds : List PyData} (h : Rep K H x d) (hs : Reps K H xs ds) : Reps K H (x :: xs) (d :: ds) := by
  rw [Reps]; exact ⟨x, xs, rfl, h, hs⟩
section
variable {X : Cx} {pins : List (Addr × Obj)} {σ : St} {H : Hp} {s : Shared}
mutual
theorem Rep.reads (I : Inv X pins σ H s) : ∀ (d : PyData) {v : V} {u : Value}, Rep X.K H v d → RelV v u → ∃ as, Reads s.heap u d as
  | .none, v, u, h, r => by rw [Rep] at h; subst h; cases (show u = .none from r); exact ⟨_, .none⟩
  | .bool b, v, u, h, r => by rw [Rep] at h; subst h; cases (show u = .bool b from r); exact ⟨_, .bool b⟩
  | .int i, v, u, h, r => by rw [Rep] at h; subst h; obtain ⟨t, rfl⟩ := (show ∃ t, u = .int i t from r); exact ⟨_, .int i t⟩
  | .str x, v, u, h, r => by rw [Rep] at h; subst h; obtain ⟨t, rfl⟩ := (show ∃ t, u = .str x t from r); exact ⟨_, .str x t⟩
  | .list ds, v, u, h, r => by
    rw [Rep] at h
    obtain ⟨a, xs, rfl, h2, h3⟩ := h
    cases (show u = .ref a from r)
    obtain ⟨its, rv, pl, _⟩ := I.list h2
    obtain ⟨as, q⟩ := Reps.reads I ds h3 rv
    obtain ⟨o, ho, hc, n, hd⟩ := pl.isList
    exact ⟨_, .list ho hc hd (by simpa using q)⟩
  | .tuple ds, v, u, h, r => by
    rw [Rep] at h
    obtain ⟨a, xs, rfl, h2, h3⟩ := h
    cases (show u = .ref a from r)
    obtain ⟨its, rv, pl, _⟩ := I.tuple h2
    obtain ⟨as, q⟩ := Reps.reads I ds h3 rv
    obtain ⟨o, ho, hc, n, hd⟩ := pl
    exact ⟨_, .tuple ho hc hd (by simpa using q)⟩
  | .dict _, v, u, h, r => by rw [Rep] at h; exact h.elim
theorem Reps.reads (I : Inv X pins σ H s) : ∀ (ds : List PyData) {xs : List V} {us : List Value}, Reps X.K H xs ds → Vals xs us → ∃ as, ReadsAll s.heap us ds as
  | [], xs, us, h, r => by rw [Reps] at h; subst h; cases r; exact ⟨_, .nil⟩
  | d :: ds, xs, us, h, r => by
    rw [Reps] at h
    obtain ⟨x, rest, rfl, h2, h3⟩ := h
    cases r with
    | cons r1 r2 =>
      obtain ⟨as, q⟩ := Rep.reads I d h2 r1
      obtain ⟨bs, q'⟩ := Reps.reads I ds h3 r2
      exact ⟨_, .cons q q'⟩
end
end
def okD (d : PyData) : Bool := d.canLay0 && decide (d.depth ≤ 60)
def rEqD (K : PySem.W.Frag) (neg : Bool) : R2 := fun x y H Q => ∃ d e, Rep K H x d ∧ Rep K H y e ∧ okD d = true ∧ okD e = true ∧ Q (.bl (if neg then !PyData.eqv d e else PyData.eqv d e)) H
section
variable {X : Cx}
theorem op_eqD {k : Nat} (hr : Room k X.A) : OpR X (compareOp .Eq) (rEqD X.K false) := by
  intro pins s σ H x y v u Q I rx ry h
  obtain ⟨d, e, h1, h2, k1, k2, q⟩ := h
  obtain ⟨as, r1⟩ := Rep.reads I d h1 rx
  obtain ⟨bs, r2⟩ := Rep.reads I e h2 ry
  unfold okD at k1 k2
  simp only [Bool.and_eq_true, decide_eq_true_eq] at k1 k2
  exact SeqAt.compareEq_reads r1 r2 k1.1 k2.1 (by have := hr.units; omega) ⟨.bl _, H, I, rfl, q⟩
theorem op_neD {k : Nat} (hr : Room k X.A) : OpR X (compareOp .NotEq) (rEqD X.K true) := by
  intro pins s σ H x y v u Q I rx ry h
  obtain ⟨d, e, h1, h2, k1, k2, q⟩ := h
  obtain ⟨as, r1⟩ := Rep.reads I d h1 rx
  obtain ⟨bs, r2⟩ := Rep.reads I e h2 ry
  unfold okD at k1 k2
  simp only [Bool.and_eq_true, decide_eq_true_eq] at k1 k2
  exact SeqAt.compareNe_reads r1 r2 k1.1 k2.1 (by have := hr.units; omega) ⟨.bl _, H, I, rfl, q⟩
end
def S (l : List Nat) : Str := ⟨l.toArray⟩
theorem S_cps (l : List Nat) : (S l).cps.toList = l := by simp [S]
theorem S_length (l : List Nat) : (S l).length = l.length := by simp [S, Str.length]
theorem S_of (x : Str) : S x.cps.toList = x := by cases x; simp [S]
theorem S_append (a b : List Nat) : S a ++ S b = S (a ++ b) := by
  show Str.mk _ = Str.mk _
  simp [S]
theorem S_inj {a b : List Nat} (h : S a = S b) : a = b := by have := congrArg (fun x : Str => x.cps.toList) h; simpa [S_cps] using this
section
variable {X : Cx}
theorem op_le_str : OpR X (compareOp .LtE) (fun x y H Q => ∃ i j, x = .str i ∧ y = .str j ∧ Q (.bl (!decide (j.cps.toList < i.cps.toList))) H) := by
  intro pins s σ H x y v u Q I rx ry h
  obtain ⟨i, j, rfl, rfl, q⟩ := h
  obtain ⟨t, rfl⟩ := rx
  obtain ⟨t', rfl⟩ := ry
  exact P.le_str ⟨.bl _, H, I, rfl, q⟩
theorem op_in_one : OpR X (compareOp .In) (fun x y H Q => ∃ c l, x = .str (S [c]) ∧ y = .str (S l) ∧ Q (.bl (decide (c ∈ l))) H) := by
  intro pins s σ H x y v u Q I rx ry h
  obtain ⟨c, l, rfl, rfl, q⟩ := h
  refine op_in_str pins s σ H _ _ v u Q I rx ry ⟨S [c], S l, rfl, rfl, ?_⟩
  have e := PySem.StrLaws.found_one (S l) c
  rw [S_cps] at e
  show Q (.bl (!(Builtin.Str.occurrences (S l) (S [c]) 0 (S l).length 1).isEmpty)) H
  rw [show S [c] = ⟨#[c]⟩ from rfl, e]
  exact q
def Its (l : List Nat) : It := ⟨fun i _ => i < l.length, fun i H x H' => H' = H ∧ ∃ c, l[i]? = some c ∧ x = .str (S [c]), fun i _ => l.length ≤ i⟩
theorem turn_str {P : Program} {w : World} {K : PySem.W.Frag} {tg : Expr} (l : List Nat) (it : Addr) (t : Tok) : Turn P w K tg (Its l) [it] it (fun i h => h.IsStrIter it "str_ascii_iterator" (S l) t i) where
  mem := by simp
  obj := fun i h st b hb => by
    have e : b = it := by simpa using hb
    subst e
    obtain ⟨o, e, c, d⟩ := st
    exact ⟨o, e, fun v z => by rw [d] at z; cases z⟩
  keep := fun i h h' st k => let ⟨o, ho, r⟩ := st; ⟨o, k it (by simp) o ho, r⟩
  item := by
    intro X hP hw hK hc i pins s σ H E I hf st hg
    subst hP hw hK
    obtain ⟨f0, f1, f2, f3, f4, f5⟩ := hf it (by simp)
    have hg' : i < l.length := hg
    refine wpAny_pyNext_ascii_item st (c := l[i]) (by simp [S, hg']) fun h' st' sb => ?_
    have I1 : Inv X pins σ H { s with heap := h', toks := s.toks + 1 } := I.turned (fun b o hb e => (sb.2 b hb).trans e) f0 f1 f3 f4 f5
    obtain ⟨o, e, c, d⟩ := id st'
    exact ⟨_, rfl, go_of (s := { s with heap := h', toks := s.toks + 1 }) e c d (by decide) ⟨.str (S [l[i]]), H, I1, ⟨_, rfl⟩, ⟨rfl, l[i], by simp [hg'], rfl⟩, st', fun b hb => (hf b hb).1⟩⟩
  done := by
    intro X hP hw hK hc i pins s σ H E I hf st hg
    subst hP hw hK
    obtain ⟨f0, f1, f2, f3, f4, f5⟩ := hf it (by simp)
    have hg' : l.length ≤ i := hg
    exact wpAny_pyNext_ascii_end (I.ok.hd hc) st (by simp [S, hg']) fun h' eb => ⟨rfl, I.turned (t' := s.toks) (fun b o hb e => eb b o hb e) f0 f1 f3 f4 f5⟩
  self := fun _ _ _ _ _ st h => wpAny_pyIter_striter_ascii st h
def ascii (l : List Nat) : Bool := l.all (· < 128)
def iStr (tl : TE) : TI := fun σ H R => tl σ H fun x H1 => ∃ l, x = .str (S l) ∧ ascii l = true ∧ R (Its l) H1
theorem pi_str {tg e : Expr} {tl : TE} (hl : PE X e tl) : PI X tg e (iStr tl) := by
  intro pins s σ H R I h
  refine thn (hl pins s σ H _ I h) fun v s1 ⟨x, H1, I1, r1, q1⟩ => ?_
  obtain ⟨l, e, ha, q⟩ := q1
  subst e
  obtain ⟨t, rfl⟩ := r1
  refine wpAny_pyIter_ascii (by simpa [S, ascii] using ha) ?_
  refine ⟨s1.heap.objs.size, [s1.heap.objs.size], _, _, H1, rfl, I1.kept (t' := s1.toks) fun b o e => Heap.get?_push_of_some _ e, turn_str l _ t, ⟨_, Heap.get?_push_size _ rfl, rfl, rfl⟩, fun b hb => ?_, q⟩
  have e : b = s1.heap.objs.size := by simpa using hb
  subst e
  exact I1.fpOk (Nat.le_refl _) (I1.hok.fresh (Nat.le_refl _))
end
end L2
namespace L2
open PySem PySem.Spec PyProof.Rows
structure Blt (mg : Str → Option Value) : Prop where
  len_ : mg "len" = none
  isinstance_ : mg "isinstance" = none
  all_ : mg "all" = none
  sum_ : mg "sum" = none
  max_ : mg "max" = none
  min_ : mg "min" = none
  int_ : mg "int" = none
  str_ : mg "str" = none
  bool_ : mg "bool" = none
  list_ : mg "list" = none
  tuple_ : mg "tuple" = none
  dict_ : mg "dict" = none
  range_ : mg "range" = none
  enumerate_ : mg "enumerate" = none
  zip_ : mg "zip" = none
section
variable {X : Cx}
theorem pe_const {x : Str} {v : V} {pos : Pos} (h : ∃ u, X.mg x = some u ∧ RelV v u) (hg : Gl X x := by rfl) (hd : (x == ("__debug__" : Str)) = false := by decide) : PE X (.Name x pos) (tC v) := by
  obtain ⟨u, hm, r⟩ := h
  exact pe_glob hg hm r hd
end
def cutN {α : Type} (l : List α) (lo hi : Option Int) : List α := (l.drop (HT.sIx l.length 0 lo)).take (HT.sIx l.length l.length hi - HT.sIx l.length 0 lo)
theorem slice_S (l : List Nat) (lo hi : Option Int) : Txt.slice (S l) lo hi = S (cutN l lo hi) := by
  obtain ⟨h1, h2, h3⟩ := slice_bounds lo hi l.length
  have e : Builtin.Str.strSliceIndices lo hi 1 (S l).length = (List.range (HT.sIx l.length l.length hi - HT.sIx l.length 0 lo)).map (HT.sIx l.length 0 lo + ·) := by
    rw [S_length]
    show sliceRange (sliceBounds lo hi none l.length).1 (sliceBounds lo hi none l.length).2.1 (sliceBounds lo hi none l.length).2.2 = _
    rw [h1, h2, h3, sliceRange_one]
  unfold Txt.slice
  rw [e, pick_run, S_cps]
  split
  · rename_i h
    have hl : HT.sIx l.length l.length hi - HT.sIx l.length 0 lo = l.length := by simpa [S_length] using h
    have hle : HT.sIx l.length l.length hi ≤ l.length := HT.sIx_le _ _ (Nat.le_refl _) hi
    have hlo : HT.sIx l.length 0 lo ≤ l.length := HT.sIx_le _ _ (Nat.zero_le _) lo
    have h0 : HT.sIx l.length 0 lo = 0 := by omega
    have h1 : HT.sIx l.length l.length hi = l.length := by omega
    unfold cutN
    rw [h0, h1]
    simp
  · rfl
section
variable {X : Cx}
def rSlS : V → Option Int → Option Int → Hp → VK → Prop := fun x lo hi H Q => ∃ l, x = .str (S l) ∧ l.length ≤ sizeLine ∧ Q (.str (S (cutN l lo hi))) H
theorem part_of {v : Value} {o : Option Int} (p : IsPart v o) : ∃ q : Option (Int × Tok), v = partValue q ∧ q.map (·.1) = o := by
  cases p with
  | none => exact ⟨none, rfl, rfl⟩
  | int i t => exact ⟨some (i, t), rfl, rfl⟩
theorem sl_str : SlR X rSlS := by
  intro pins s σ H x v vl vu lo hi sl Q I rx hs pl pu h
  obtain ⟨l, rfl, hz, q⟩ := h
  obtain ⟨t, rfl⟩ := rx
  obtain ⟨ql, rfl, e1⟩ := part_of pl
  obtain ⟨qu, rfl, e2⟩ := part_of pu
  refine ⟨"str", _, F.slot_str_getitem.lookup, typeIs_str _ _ _, ?_⟩
  refine wpAny_getItem_str_slice (l := ql) (u := qu) (st := none) hs rfl ?_
  have key : (if ((1 : Int) == 1 && (Builtin.Str.strSliceIndices lo hi 1 (S l).length).length == (S l).length) = true then S l else ⟨((Builtin.Str.strSliceIndices lo hi 1 (S l).length).filterMap ((S l).cps[·]?)).toArray⟩) = S (cutN l lo hi) := slice_S l lo hi
  unfold sliceMade slicePicked
  rw [e1, e2]
  refine post_val_or_str ⟨?_, fun t' k => ?_⟩
  · show (Txt.slice (S l) lo hi).length ≤ _
    exact Nat.le_trans (Txt.slice_le _ _ _) (by rw [S_length]; exact hz)
  · have e3 := slice_S l lo hi
    unfold Txt.slice at e3
    show EP X pins σ Q (.str (if ((1 : Int) == 1 && (Builtin.Str.strSliceIndices lo hi 1 (S l).length).length == (S l).length) = true then S l else ⟨((Builtin.Str.strSliceIndices lo hi 1 (S l).length).filterMap ((S l).cps[·]?)).toArray⟩) t') { s with toks := k }
    rw [e3]
    exact ⟨.str _, H, I.tok k, ⟨t', rfl⟩, q⟩
end
namespace HT2
theorem getItem_tuple_whole {prog : Program} {w : World} {A : Around} {E : Value → Shared → Prop} {s : Shared} {t sl : Addr} {items : Array Value} {vl vu : Value} {lo hi : Option Int} {Q : Value → Shared → Prop} (ht : IsTup s.heap t items) (hs : s.heap.IsSliceOf sl vl vu .none) (pl : IsPart vl lo) (pu : IsPart vu hi)
    (hw : HT.sIx items.size 0 lo = 0 ∧ HT.sIx items.size items.size hi = items.size) (h : Q (.ref t) s) : wpAny (model prog w) A (getItem (.ref t) (.ref sl)) Q E s := by
  obtain ⟨os, hos, hcs, hds⟩ := id hs
  have hTs : s.TypeIs (.ref sl) "slice" := ⟨os, hos, hcs⟩
  unfold getItem
  try with_reducible refine wpAny_holding ?_
  first | refine wpAny_bind (wpAny_pure ?_) | skip
  refine wpAny_bind (wpAny_sequenceKey ht.typeIs (by decide) ?_)
  refine wpAny_bind (wpAny_callSpecial?_slot (name := Str.ofString "__getitem__") ht.typeIs PyProof.Rows.slot_tuple_getitem
    (wpAny_call_entry PyProof.Rows.slot_tuple_getitem ht.typeIs entry_tuple_getitem ?_ (args_tuple_getitem _ _)))
  show wpAny _ _ (Builtin.Tuple.tupleItemsOf (.ref t) >>= _) _ _ s
  refine wpAny_bind (tupleItemsOf_ ht ?_)
  refine wpAny_bind (wpAny_typeOf hTs ?_)
  rw [if_pos (by decide)]
  refine wpAny_bind (HT.sliceApplied_gen hs pl pu ?_)
  have hyes : (((HT.sIx items.size 0 lo : Nat) : Int) == 0 && (1 : Int) == 1 && (HT.sIx items.size items.size hi - HT.sIx items.size 0 lo) == items.size) = true := by
    rw [hw.1, hw.2]
    simp
  show wpAny _ _ (if (((HT.sIx items.size 0 lo : Nat) : Int) == 0 && (1 : Int) == 1 && (HT.sIx items.size items.size hi - HT.sIx items.size 0 lo) == items.size) = true then _ else _) _ _ s
  rw [if_pos hyes]
  have hex : ∀ {A' : Around} {E' : Value → Shared → Prop} {Q' : Bool → Shared → Prop}, Q' true s → wpAny (model prog w) A' (Builtin.Tuple.tupleIsExact (.ref t)) Q' E' s := fun {A' E' Q'} hq => by
    unfold Builtin.Tuple.tupleIsExact
    exact wpAny_bind (wpAny_typeOf ht.typeIs (wpAny_pure hq))
  refine wpAny_bind (hex ?_)
  rw [if_pos rfl]
  exact wpAny_bind (wpAny_rule (wpAny_pure ⟨_, rfl, wpAny_pure h⟩))
end HT2
section
variable {X : Cx}
def rSlT2 (K : PySem.W.Frag) : V → Option Int → Option Int → Hp → VK → Prop := fun x lo hi H Q => ∃ a xs, x = .ref a ∧ SqT K H a xs ∧
  ((HT.sIx xs.length 0 lo = 0 ∧ HT.sIx xs.length xs.length hi = xs.length) → Q (.ref a) H) ∧ (¬ (HT.sIx xs.length 0 lo = 0 ∧ HT.sIx xs.length xs.length hi = xs.length) → ∀ p, H p = none → Q (.ref p) (upd H p (.tup (cutV xs lo hi))))
theorem sl_tup2 (K : PySem.W.Frag) (hK : X.K = K := by rfl) : SlR X (rSlT2 K) := by
  subst hK
  intro pins s σ H x v vl vu lo hi sl Q I rx hs pl pu h
  obtain ⟨a, xs, rfl, hx, q1, q2⟩ := h
  by_cases hw : HT.sIx xs.length 0 lo = 0 ∧ HT.sIx xs.length xs.length hi = xs.length
  · cases rx
    obtain ⟨its, r, ht, hz⟩ := I.tuple hx
    have hlen : its.toArray.size = xs.length := by rw [List.size_toArray]; exact r.length.symm
    exact ⟨"tuple", _, PyProof.Rows.slot_tuple_getitem.lookup, ht.typeIs, HT2.getItem_tuple_whole ht hs pl pu (by rw [hlen]; exact hw) ⟨.ref a, H, I, rfl, q1 hw⟩⟩
  · exact sl_tup pins s σ H _ v vl vu lo hi sl Q I rx hs pl pu ⟨a, xs, rfl, hx, hw, q2 hw⟩
inductive TyQ (K : PySem.W.Frag) (H : Hp) : V → String → Prop where
  | non : TyQ K H .non "NoneType"
  | bl (x : Bool) : TyQ K H (.bl x) "bool"
  | int (i : Int) : TyQ K H (.int i) "int"
  | str (x : Str) : TyQ K H (.str x) "str"
  | lst {a : Addr} {xs : List V} (e : SqL K H a xs) : TyQ K H (.ref a) "list"
  | tup {a : Addr} {xs : List V} (e : SqT K H a xs) : TyQ K H (.ref a) "tuple"
  | dK {a : Addr} {kvs : List (Key × V)} (e : H a = some (.dK kvs)) : TyQ K H (.ref a) "dict"
def rIsQ (K : PySem.W.Frag) : List V → Hp → VK → Prop := fun xs H Q => ∃ x n t b, xs = [x, .ty n] ∧ TyQ K H x t ∧ PySem.W.kitOne K (.type t) (.type n) = some b ∧ Q (.bl b) H
theorem call_isiK (K : PySem.W.Frag) (hK : X.K = K := by rfl) : CallR X (.builtin "isinstance") (rIsQ K) := by
  subst hK
  intro pins s σ H xs us Q I r h
  obtain ⟨x, n, t, b, rfl, ty, e, q⟩ := h
  obtain ⟨u, c, rfl, r1, r2⟩ := vals2 r
  cases (show c = .type n from r2)
  have fin : ∀ tk, EP X pins σ Q (.bool b) { s with toks := tk } := fun tk => ⟨.bl b, H, I.tok tk, rfl, q⟩
  cases ty with
  | non => exact isinst_ok I r1 .non e fin
  | bl y => exact isinst_ok I r1 (.bl y) e fin
  | int i => exact isinst_ok I r1 (.int i) e fin
  | str y => exact isinst_ok I r1 (.str y) e fin
  | @lst a xs ea =>
    cases (show u = Value.ref a from r1)
    obtain ⟨its, _, p, _⟩ := I.list ea
    obtain ⟨o, ho, hc, _⟩ := p.isList
    exact PySem.W.kia_one PySem.W.kitx_list I.kIn ⟨o, ho, hc⟩ e (fun z => nomatch z) fin
  | @tup a xs ea =>
    cases (show u = Value.ref a from r1)
    obtain ⟨its, _, p, _⟩ := I.tuple ea
    obtain ⟨o, ho, hc, _⟩ := p
    exact PySem.W.kia_one PySem.W.kitx_tuple I.kIn ⟨o, ho, hc⟩ e (fun z => nomatch z) fin
  | @dK a kvs ea => exact isinst_ok I r1 (.dK ea) e fin
theorem kit_same (K : PySem.W.Frag) (n : String) : PySem.W.kitOne K (.type n) (.type n) = some true := by
  unfold PySem.W.kitOne
  rw [if_pos (beq_self_eq_true _)]
end
theorem lay_all : ∀ {ds : List PyData}, (∀ d ∈ ds, d.canLay0 = true) → PyData.canLayAll0 ds = true
  | [], _ => rfl
  | d :: ds, h => by rw [PyData.canLayAll0, h d List.mem_cons_self, lay_all fun x hx => h x (List.mem_cons_of_mem _ hx)]; rfl
theorem deep_all {n : Nat} : ∀ {ds : List PyData}, (∀ d ∈ ds, d.depth ≤ n) → PyData.depthAll ds ≤ n
  | [], _ => by rw [PyData.depthAll]; exact Nat.zero_le _
  | d :: ds, h => by
    rw [PyData.depthAll]
    exact Nat.max_le.mpr ⟨h d List.mem_cons_self, deep_all fun x hx => h x (List.mem_cons_of_mem _ hx)⟩
theorem ok_list {n : Nat} (hn : n < 60) {ds : List PyData} (h : ∀ d ∈ ds, d.canLay0 = true ∧ d.depth ≤ n) : okD (.list ds) = true := by
  unfold okD
  rw [Bool.and_eq_true]
  refine ⟨?_, decide_eq_true ?_⟩
  · show PyData.canLayAll0 ds = true
    exact lay_all fun d hd => (h d hd).1
  · show PyData.depthAll ds + 1 ≤ 60
    have := deep_all fun d hd => (h d hd).2
    omega
end L2
namespace L2
open PySem PySem.Spec PyProof.Rows
section
variable {X : Cx}
theorem strsAre_of : ∀ {ls : List (List Nat)} {us : List Value}, Vals (ls.map fun l => V.str (S l)) us → StrsAre us (ls.map S)
  | [], us, r => by rw [List.map_nil] at r; cases r; exact .nil
  | l :: ls, us, r => by
    rw [List.map_cons] at r
    cases r with
    | cons r1 r2 =>
      obtain ⟨t, e⟩ := r1
      subst e
      exact .cons _ t (strsAre_of r2)
theorem glue_S : ∀ (ls : List (List Nat)) (a : Array Nat), (ls.map S).foldl (fun acc p => acc ++ (S []).cps ++ p.cps) a = a ++ ls.flatten.toArray
  | [], a => by simp
  | l :: ls, a => by
    rw [List.map_cons, List.foldl_cons, glue_S ls]
    simp [S]
theorem join_S (ls : List (List Nat)) : Txt.join (S []) (ls.map S) = S ls.flatten := by
  show Builtin.Str.glued (S []) (ls.map S) = _
  unfold Builtin.Str.glued
  cases ls with
  | nil => rfl
  | cons l ls =>
    show Str.mk ((ls.map S).foldl (fun acc p => acc ++ (S []).cps ++ p.cps) (S l).cps) = _
    rw [glue_S]
    simp [S]
def rJoin (K : PySem.W.Frag) : V → List V → Hp → VK → Prop := fun x vs H Q => ∃ (p : Addr) (ls : List (List Nat)), x = .str (S []) ∧ vs = [.ref p] ∧ SqL K H p (ls.map fun l => V.str (S l)) ∧ (ls.map List.length).sum ≤ 1000000 ∧ Q (.str (S ls.flatten)) H
theorem mt_joinK (K : PySem.W.Frag) (hK : X.K = K := by rfl) : MtR X "str.join" (rJoin K) := by
  subst hK
  intro pins s σ H x xs v us Q I rx rs h
  obtain ⟨p, ls, rfl, rfl, hq, hz, q⟩ := h
  obtain ⟨t, rfl⟩ := rx
  obtain ⟨u, rfl, ru⟩ := vals1 rs
  cases ru
  obtain ⟨its, rv, pl, _⟩ := I.list hq
  refine join_list pl.isList (ys := ls.map S) (by simpa using strsAre_of rv) ?_ fun t' k => ⟨.str (S ls.flatten), H, I.tok k, ⟨t', ?_⟩, q⟩
  · have e : ((ls.map S).map (·.length)).sum = (ls.map List.length).sum := by
      rw [List.map_map]
      exact congrArg List.sum (List.map_congr_left fun l _ => S_length l)
    rw [e, S_length]
    simp only [List.length_nil, Nat.mul_zero]
    omega
  · rw [join_S]
def rStarts : V → List V → Hp → VK → Prop := fun x vs H Q => ∃ l m, x = .str (S l) ∧ vs = [.str (S m)] ∧ Q (.bl (decide (l.take m.length = m))) H
theorem starts_S (l m : List Nat) : Txt.startswith (S l) (S m) = decide (l.take m.length = m) := by
  unfold Txt.startswith
  rw [StrLaws.subAt_eq, S_cps, S_cps, S_length, S_length, List.drop_zero, Bool.eq_iff_iff, Bool.and_eq_true, decide_eq_true_eq, decide_eq_true_eq, beq_iff_eq]
  constructor
  · exact fun h => h.2
  · intro h
    refine ⟨?_, h⟩
    have := congrArg List.length h
    rw [List.length_take] at this
    omega
def rMulS : R2 := fun x y H Q => ∃ (l : List Nat) (n : Int), x = .str (S l) ∧ y = .int n ∧ -1000000 < n ∧ n < 1000000 ∧ l.length * n.toNat ≤ 16777216 ∧ Q (.str (S (List.replicate n.toNat l).flatten)) H
theorem rep_S (l : List Nat) : ∀ (n : Nat) (a : Array Nat), (List.replicate n (S l).cps).foldl (· ++ ·) a = a ++ (List.replicate n l).flatten.toArray
  | 0, a => by simp
  | n + 1, a => by
    rw [List.replicate_succ, List.foldl_cons, rep_S l n, List.replicate_succ, List.flatten_cons]
    simp [S]
theorem op_mul_str : OpR X (binaryOp .Mult) rMulS := by
  intro pins s σ H x y v u Q I rx ry h
  obtain ⟨l, n, rfl, rfl, h1, h2, h3, q⟩ := h
  obtain ⟨t, rfl⟩ := rx
  obtain ⟨t', rfl⟩ := ry
  have hs : sizeLine = 16777216 := sizeLine_eq
  by_cases hn : n < 1
  · have e0 : n.toNat = 0 := by omega
    rw [e0] at q
    exact P.mul_str_none hn (by omega) ⟨.str (S []), H, I.tok _, ⟨s.toks, rfl⟩, q⟩
  refine P.mul_str ?_ (fun _ _ => ?_) (fun _ _ => ?_) ?_
  · rw [decide_eq_false (by omega), decide_eq_false (by omega)]
    rfl
  · rw [S_length]
    intro hz
    have h4 : (l.length : Int) * n ≤ 16777216 := by
      have : ((l.length * n.toNat : Nat) : Int) ≤ 16777216 := by omega
      rw [Int.natCast_mul, Int.toNat_of_nonneg (by omega)] at this
      exact this
    have h5 : (2 ^ 63 - 1) / n < (l.length : Int) := hz
    have h6 := (Int.ediv_lt_iff_lt_mul (show 0 < n by omega)).mp h5
    omega
  · rw [S_length]
    unfold Builtin.Str.tooLong
    exact decide_eq_false (by omega)
  · rw [if_neg (by omega)]
    by_cases hl : (n == 1 || (S l).length == 0) = true
    · rw [if_pos hl]
      have e : (List.replicate n.toNat l).flatten = l := by
        rw [Bool.or_eq_true, beq_iff_eq, beq_iff_eq, S_length] at hl
        rcases hl with z | z
        · rw [z]
          show (List.replicate 1 l).flatten = l
          simp
        · have z' := List.eq_nil_of_length_eq_zero z
          subst z'
          rw [List.flatten_eq_nil_iff]
          intro x hx
          exact (List.mem_replicate.mp hx).2
      rw [e] at q
      exact ⟨.str (S l), H, I, ⟨t, rfl⟩, q⟩
    · rw [if_neg hl, rep_S]
      refine ⟨?_, .str (S (List.replicate n.toNat l).flatten), H, I.tok _, ⟨s.toks, ?_⟩, q⟩
      · show (#[] ++ (List.replicate n.toNat l).flatten.toArray).size ≤ sizeLine
        simp only [Array.size_append, List.size_toArray, List.length_flatten, List.map_replicate, List.sum_replicate_nat]
        simp
        rw [Nat.mul_comm]
        omega
      · congr 1
        simp [S]
theorem mt_starts : MtR X "str.startswith" rStarts := by
  intro pins s σ H x xs v us Q I rx rs h
  obtain ⟨l, m, rfl, rfl, q⟩ := h
  obtain ⟨t, rfl⟩ := rx
  obtain ⟨u, rfl, ru⟩ := vals1 rs
  obtain ⟨t', rfl⟩ := ru
  exact SC.startswith ⟨.bl _, H, I, rfl, by rw [starts_S]; exact q⟩
end
end L2
namespace L2
open PySem PySem.Spec PyProof.Rows
inductive D where
  | non | bl (b : Bool) | int (i : Int) | str (l : List Nat) | lst (ds : List D) | tup (ds : List D) | dic (ks vs : List D) | ob (n : Nat)
inductive Ob where
  | ins (c : Str) (fs : List (Str × D))
  | ml (ds : List D)
  | dt (kvs : List (List Key × D))
  | df (kvs : List (List Key × D))
abbrev Store := List Ob
abbrev DEnv := List (Option D)
structure Xc where
  cls : Str
  fs : List (Str × D)
inductive Res (α : Type) where
  | ok (a : α) (O : Store) | ex (x : Xc) (O : Store) | no
inductive Fl where
  | nx (ρ : DEnv) (O : Store) | rt (d : D) (O : Store) | bk (ρ : DEnv) (O : Store) | ct (ρ : DEnv) (O : Store) | ex (x : Xc) (O : Store) | no
abbrev M (α : Type) := DEnv → Store → Res α
abbrev MS := DEnv → Store → Fl
def Res.bind {α β : Type} (r : Res α) (f : α → Store → Res β) : Res β := match r with
  | .ok a O => f a O
  | .ex x O => .ex x O
  | .no => .no
theorem Res.bind_ok {α β : Type} {r : Res α} {f : α → Store → Res β} {b : β} {O' : Store} (h : r.bind f = .ok b O') : ∃ a O, r = .ok a O ∧ f a O = .ok b O' := by
  cases r with
  | ok a O => exact ⟨a, O, rfl, h⟩
  | ex x O => cases h
  | no => cases h
def noStar : Expr → Bool
  | .Starred _ _ => false
  | _ => true
theorem starC {e : Expr} {es : List Expr} {env : Env} (h : noStar e = true) : starEach (e :: es) env = (false, eval e env) :: starEach es env := by
  cases e <;> first | rfl | cases h
theorem starAny {pos : Pos} {env : Env} : ∀ {es : List Expr}, es.all noStar = true → (backTo pos (starEach es env)).any (·.1) = false
  | [], _ => by simp [starEach, backTo]
  | e :: es, h => by
    rw [List.all_cons, Bool.and_eq_true] at h
    rw [starC h.1]
    show (false || (backTo pos (starEach es env)).any (·.1)) = false
    rw [starAny h.2]
    rfl
theorem star1 {e : Expr} {env : Env} (h : noStar e = true) : starEach [e] env = [(false, eval e env)] := by rw [starC h]; simp [starEach]
abbrev Frag := PySem.W.Frag
def keyD : Key → D
  | .inl i => .int i
  | .inr x => .str x.cps.toList
def RdK (K : Frag) (H : Hp) (a : Addr) (xs : List V) : Prop := Rd H a (.lst xs) ∨ ∃ (its : List Value) (n : Nat), K.lookup a = some { cls := .type "list", data := .seq its.toArray n } ∧ its.length ≤ sizeLine ∧ Vals xs its
theorem RdK.sq {K : Frag} {H : Hp} {a : Addr} {xs : List V} (h : RdK K H a xs) : SqL K H a xs := by
  rcases h with h | ⟨its, n, h1, h2, h3⟩
  · exact .inl h
  · exact .inr ⟨_, its.toArray, n, h1, rfl, rfl, rfl, by simpa using h2, by simpa using h3⟩
theorem RdK.ok {X : Cx} {pins : List (Addr × Obj)} {σ : St} {H : Hp} {s : Shared} {a : Addr} {xs : List V} (h : RdK X.K H a xs) (I : Inv X pins σ H s) : xs.length ≤ sizeLine ∧ ∃ (its : List Value) (n : Nat), Vals xs its ∧ s.heap.get? a = some { cls := .type "list", data := .seq its.toArray n } := by
  rcases h with h | ⟨its, n, h1, h2, h3⟩
  · exact h.ok I.hok
  · exact ⟨by rw [h3.length]; exact h2, its, n, h3, I.kIn a _ h1⟩
def TqT (K : Frag) (F : Hp) (a : Addr) (xs : List V) : Prop :=
  F a = some (.tup xs) ∨ ∃ (o : Obj) (its : Array Value) (n : Nat), K.lookup a = some o ∧ o.cls = .type "tuple" ∧ o.data = .seq its n ∧ its.size ≤ sizeLine ∧ Vals xs its.toList
theorem TqT.sq {K : Frag} {F : Hp} {a : Addr} {xs : List V} (h : TqT K F a xs) : SqT K F a xs := h.imp .inl id
mutual
def Rp (K : Frag) (F : Hp) (as : List Addr) : V → D → Prop
  | v, .non => v = .non
  | v, .bl b => v = .bl b
  | v, .int i => v = .int i
  | v, .str l => v = .str (S l)
  | v, .lst ds => ∃ a xs, v = .ref a ∧ RdK K F a xs ∧ Rps K F as xs ds
  | v, .tup ds => ∃ a xs, v = .ref a ∧ TqT K F a xs ∧ Rps K F as xs ds
  | v, .dic ks vs => ∃ (a : Addr) (kvs : List (Key × V)), v = .ref a ∧ F a = some (.dK kvs) ∧ ks = kvs.map (fun p => keyD p.1) ∧ Rps K F as (kvs.map (·.2)) vs
  | v, .ob n => ∃ a, v = .ref a ∧ as[n]? = some a
def Rps (K : Frag) (F : Hp) (as : List Addr) : List V → List D → Prop
  | xs, [] => xs = []
  | xs, d :: ds => ∃ x r, xs = x :: r ∧ Rp K F as x d ∧ Rps K F as r ds
end
section
variable {K : Frag} {F F' : Hp} {as as' : List Addr}
theorem Rd.mono {H H' : Hp} {a : Addr} {u : HO} (e : Same H H') (h : Rd H a u) : Rd H' a u := by
  rcases h with h | ⟨o, h⟩
  · exact .inl (e _ _ h)
  · exact .inr ⟨o, e _ _ h⟩
theorem RdK.mono {H H' : Hp} {a : Addr} {xs : List V} (e : Same H H') (h : RdK K H a xs) : RdK K H' a xs := h.imp (fun z => z.mono e) id
mutual
theorem Rp.mono (e : Same F F') (ea : ∀ (n : Nat) (a : Addr), as[n]? = some a → as'[n]? = some a) : ∀ (d : D) {v : V}, Rp K F as v d → Rp K F' as' v d
  | .non, v, h => by rw [Rp] at h ⊢; exact h
  | .bl b, v, h => by rw [Rp] at h ⊢; exact h
  | .int i, v, h => by rw [Rp] at h ⊢; exact h
  | .str x, v, h => by rw [Rp] at h ⊢; exact h
  | .lst ds, v, h => by
    rw [Rp] at h ⊢
    obtain ⟨a, xs, h1, h2, h3⟩ := h
    exact ⟨a, xs, h1, h2.mono e, Rps.mono e ea ds h3⟩
  | .tup ds, v, h => by
    rw [Rp] at h ⊢
    obtain ⟨a, xs, h1, h2, h3⟩ := h
    exact ⟨a, xs, h1, h2.imp (e _ _) id, Rps.mono e ea ds h3⟩
  | .dic ks vs, v, h => by
    rw [Rp] at h ⊢
    obtain ⟨a, kvs, h1, h2, h3, h4⟩ := h
    exact ⟨a, kvs, h1, e _ _ h2, h3, Rps.mono e ea vs h4⟩
  | .ob n, v, h => by
    rw [Rp] at h ⊢
    obtain ⟨a, h1, h2⟩ := h
    exact ⟨a, h1, ea _ _ h2⟩
theorem Rps.mono (e : Same F F') (ea : ∀ (n : Nat) (a : Addr), as[n]? = some a → as'[n]? = some a) : ∀ (ds : List D) {xs : List V}, Rps K F as xs ds → Rps K F' as' xs ds
  | [], xs, h => by rw [Rps] at h ⊢; exact h
  | d :: ds, xs, h => by
    rw [Rps] at h ⊢
    obtain ⟨x, r, h1, h2, h3⟩ := h
    exact ⟨x, r, h1, Rp.mono e ea d h2, Rps.mono e ea ds h3⟩
end
theorem Rp.non : Rp K F as .non .non := by rw [Rp]
theorem Rp.bl {b : Bool} : Rp K F as (.bl b) (.bl b) := by rw [Rp]
theorem Rp.int {i : Int} : Rp K F as (.int i) (.int i) := by rw [Rp]
theorem Rp.str {l : List Nat} : Rp K F as (.str (S l)) (.str l) := by rw [Rp]
theorem Rp.unN {v : V} (h : Rp K F as v .non) : v = .non := by rw [Rp] at h; exact h
theorem Rp.unB {v : V} {b : Bool} (h : Rp K F as v (.bl b)) : v = .bl b := by rw [Rp] at h; exact h
theorem Rp.unI {v : V} {i : Int} (h : Rp K F as v (.int i)) : v = .int i := by rw [Rp] at h; exact h
theorem Rp.unS {v : V} {l : List Nat} (h : Rp K F as v (.str l)) : v = .str (S l) := by rw [Rp] at h; exact h
theorem Rp.unL {v : V} {ds : List D} (h : Rp K F as v (.lst ds)) : ∃ a xs, v = .ref a ∧ RdK K F a xs ∧ Rps K F as xs ds := by rw [Rp] at h; exact h
theorem Rp.unT' {v : V} {ds : List D} (h : Rp K F as v (.tup ds)) : ∃ a xs, v = .ref a ∧ TqT K F a xs ∧ Rps K F as xs ds := by rw [Rp] at h; exact h
theorem Rp.unT {v : V} {ds : List D} (h : Rp K F as v (.tup ds)) : ∃ a xs, v = .ref a ∧ SqT K F a xs ∧ Rps K F as xs ds := let ⟨a, xs, e, h1, h2⟩ := h.unT'; ⟨a, xs, e, h1.sq, h2⟩
theorem Rp.unO {v : V} {n : Nat} (h : Rp K F as v (.ob n)) : ∃ a, v = .ref a ∧ as[n]? = some a := by rw [Rp] at h; exact h
theorem Rp.unD {v : V} {ks vs : List D} (h : Rp K F as v (.dic ks vs)) : ∃ (a : Addr) (kvs : List (Key × V)), v = .ref a ∧ F a = some (.dK kvs) ∧ ks = kvs.map (fun p => keyD p.1) ∧ Rps K F as (kvs.map (·.2)) vs := by rw [Rp] at h; exact h
theorem Rp.mkL {a : Addr} {xs : List V} {ds : List D} (h : RdK K F a xs) (hs : Rps K F as xs ds) : Rp K F as (.ref a) (.lst ds) := by rw [Rp]; exact ⟨a, xs, rfl, h, hs⟩
theorem Rp.mkT {a : Addr} {xs : List V} {ds : List D} (h : TqT K F a xs) (hs : Rps K F as xs ds) : Rp K F as (.ref a) (.tup ds) := by rw [Rp]; exact ⟨a, xs, rfl, h, hs⟩
theorem Rp.mkO {a : Addr} {n : Nat} (h : as[n]? = some a) : Rp K F as (.ref a) (.ob n) := by rw [Rp]; exact ⟨a, rfl, h⟩
theorem Rps.nil : Rps K F as [] [] := by rw [Rps]
theorem Rps.cons {x : V} {xs : List V} {d : D} {ds : List D} (h : Rp K F as x d) (hs : Rps K F as xs ds) : Rps K F as (x :: xs) (d :: ds) := by
  rw [Rps]; exact ⟨x, xs, rfl, h, hs⟩
theorem Rps.un {xs : List V} {d : D} {ds : List D} (h : Rps K F as xs (d :: ds)) : ∃ x r, xs = x :: r ∧ Rp K F as x d ∧ Rps K F as r ds := by rw [Rps] at h; exact h
theorem Rps.un0 {xs : List V} (h : Rps K F as xs []) : xs = [] := by rw [Rps] at h; exact h
theorem Rps.length : ∀ {ds : List D} {xs : List V}, Rps K F as xs ds → xs.length = ds.length
  | [], xs, h => by rw [h.un0]; rfl
  | d :: ds, xs, h => by
    obtain ⟨x, r, rfl, _, h3⟩ := h.un
    simp [Rps.length h3]
theorem Rps.get : ∀ {ds : List D} {xs : List V} {i : Nat} {x : V}, Rps K F as xs ds → xs[i]? = some x → ∃ d, ds[i]? = some d ∧ Rp K F as x d
  | [], xs, i, x, h, e => by rw [h.un0] at e; simp at e
  | d :: ds, xs, i, x, h, e => by
    obtain ⟨y, r, rfl, h2, h3⟩ := h.un
    cases i with
    | zero => simp at e; subst e; exact ⟨d, rfl, h2⟩
    | succ i =>
      obtain ⟨d', e', q⟩ := Rps.get (i := i) (x := x) h3 (by simpa using e)
      exact ⟨d', by simpa using e', q⟩
theorem Rps.get' : ∀ {ds : List D} {xs : List V} {i : Nat} {d : D}, Rps K F as xs ds → ds[i]? = some d → ∃ x, xs[i]? = some x ∧ Rp K F as x d := by
  intro ds xs i d h e
  have hl := h.length
  have hi : i < xs.length := by rw [hl]; exact (List.getElem?_eq_some_iff.mp e).1
  obtain ⟨d', e', q⟩ := h.get (List.getElem?_eq_getElem hi)
  rw [e] at e'; cases e'
  exact ⟨_, List.getElem?_eq_getElem hi, q⟩
theorem Rps.append {ys : List V} {es : List D} (hy : Rps K F as ys es) : ∀ {ds : List D} {xs : List V}, Rps K F as xs ds → Rps K F as (xs ++ ys) (ds ++ es)
  | [], xs, h => by rw [h.un0]; exact hy
  | e :: ds, xs, h => by
    obtain ⟨y, r, rfl, h2, h3⟩ := h.un
    exact Rps.cons h2 (Rps.append hy h3)
theorem Rps.snoc {x : V} {d : D} {ds : List D} {xs : List V} (h : Rps K F as xs ds) (hx : Rp K F as x d) : Rps K F as (xs ++ [x]) (ds ++ [d]) := Rps.append (Rps.cons hx Rps.nil) h
theorem Rps.take : ∀ {ds : List D} {xs : List V} (n : Nat), Rps K F as xs ds → Rps K F as (xs.take n) (ds.take n)
  | _, _, 0, _ => by simpa using Rps.nil
  | [], xs, n + 1, h => by rw [h.un0]; simpa using Rps.nil
  | d :: ds, xs, n + 1, h => by
    obtain ⟨y, r, rfl, h2, h3⟩ := h.un
    exact Rps.cons h2 (Rps.take n h3)
theorem Rps.drop : ∀ {ds : List D} {xs : List V} (n : Nat), Rps K F as xs ds → Rps K F as (xs.drop n) (ds.drop n)
  | _, _, 0, h => by simpa using h
  | [], xs, n + 1, h => by rw [h.un0]; simpa using Rps.nil
  | d :: ds, xs, n + 1, h => by
    obtain ⟨y, r, rfl, h2, h3⟩ := h.un
    exact Rps.drop n h3
theorem Rps.set : ∀ {ds : List D} {xs : List V} {x : V} {d : D} (n : Nat), Rps K F as xs ds → Rp K F as x d → Rps K F as (xs.set n x) (ds.set n d)
  | [], xs, x, d, n, h, _ => by rw [h.un0]; simpa using Rps.nil
  | e :: ds, xs, x, d, 0, h, hx => by
    obtain ⟨y, r, rfl, h2, h3⟩ := h.un
    exact Rps.cons hx h3
  | e :: ds, xs, x, d, n + 1, h, hx => by
    obtain ⟨y, r, rfl, h2, h3⟩ := h.un
    exact Rps.cons h2 (Rps.set n h3 hx)
theorem Rps.rep {ds : List D} {xs : List V} (h : Rps K F as xs ds) : ∀ n : Nat, Rps K F as (List.replicate n xs).flatten (List.replicate n ds).flatten
  | 0 => by simpa using Rps.nil
  | n + 1 => by
    rw [List.replicate_succ, List.replicate_succ, List.flatten_cons, List.flatten_cons]
    exact Rps.append (Rps.rep h n) h
end
def isD : HO → Bool
  | .ins _ _ _ => false
  | .own _ => false
  | .xd _ => false
  | _ => true
def isL : HO → Bool
  | .lst _ => true
  | .dK _ => true
  | _ => false
theorem isL_D {o : HO} (h : isL o = true) : isD o = true := by
  cases o <;> first | rfl | cases h
structure Gr (H F : Hp) (as : List Addr) (H' F' : Hp) (as' : List Addr) : Prop where
  fz : ∀ a o, H a = some o → a ∉ as → isL o = true → F' a = F a
  ff : Same F F'
  nw : ∃ new, as' = as ++ new ∧ ∀ a ∈ new, H a = none
  fr : ∀ a o, H a = some o → a ∉ as → isD o = true → H' a = some o
  dm : ∀ a, H' a = none → H a = none
  kz : ∀ a o u, H a = some (.frz o u) → H' a = some (.frz o u)
structure Pt where
  p : Addr → Prop
  ss : List (Nat × V × D)
instance : CoeFun Pt (fun _ => Addr → Prop) := ⟨Pt.p⟩
def Pt.all (H : Hp) : Pt := ⟨fun a => H a ≠ none, []⟩
structure GrS (P : Pt) (H F : Hp) (as : List Addr) (H' F' : Hp) (as' : List Addr) : Prop where
  fz : ∀ a o, P a → H a = some o → a ∉ as → isL o = true → F' a = F a
  ff : Same F F'
  nw : ∃ new, as' = as ++ new ∧ ∀ a ∈ new, H a = none
  fr : ∀ a o, P a → H a = some o → a ∉ as → isD o = true → H' a = some o
  dm : ∀ a, H' a = none → H a = none
  kz : ∀ a o u, H a = some (.frz o u) → H' a = some (.frz o u)
section
variable {H F H' F' H2 F2 : Hp} {as as' as2 : List Addr} {P : Pt}
theorem Gr.refl : Gr H F as H F as := ⟨fun _ _ _ _ _ => rfl, Same.refl F, ⟨[], by simp, fun _ h => nomatch h⟩, fun _ _ h _ _ => h, fun _ h => h, fun _ _ _ h => h⟩
theorem Gr.trans (a : Gr H F as H' F' as') (b : Gr H' F' as' H2 F2 as2) : Gr H F as H2 F2 as2 := by
  obtain ⟨n1, e1, h1⟩ := a.nw
  obtain ⟨n2, e2, h2⟩ := b.nw
  refine ⟨fun c o hc hn hd => ?_, a.ff.trans b.ff, ⟨n1 ++ n2, by rw [e2, e1, List.append_assoc], fun c hc => ?_⟩, fun c o e hn hd => ?_, fun c h => a.dm c (b.dm c h), fun c o u h => b.kz c o u (a.kz c o u h)⟩
  · have q := a.fr c o hc hn (isL_D hd)
    refine (b.fz c o q ?_ hd).trans (a.fz c o hc hn hd)
    rw [e1]
    intro z
    rcases List.mem_append.mp z with z | z
    · exact hn z
    · rw [h1 c z] at hc; cases hc
  · rcases List.mem_append.mp hc with z | z
    · exact h1 c z
    · exact a.dm c (h2 c z)
  · have q := a.fr c o e hn hd
    refine b.fr c o q ?_ hd
    rw [e1]
    intro z
    rcases List.mem_append.mp z with z | z
    · exact hn z
    · rw [h1 c z] at e; cases e
theorem Gr.toS (a : Gr H F as H' F' as') : GrS P H F as H' F' as' := ⟨fun c o _ => a.fz c o, a.ff, a.nw, fun c o _ e hn hd => a.fr c o e hn hd, a.dm, a.kz⟩
theorem GrS.refl : GrS P H F as H F as := Gr.refl.toS
theorem GrS.trans (a : GrS P H F as H' F' as') (b : GrS P H' F' as' H2 F2 as2) : GrS P H F as H2 F2 as2 := by
  obtain ⟨n1, e1, h1⟩ := a.nw
  obtain ⟨n2, e2, h2⟩ := b.nw
  refine ⟨fun c o p hc hn hd => ?_, a.ff.trans b.ff, ⟨n1 ++ n2, by rw [e2, e1, List.append_assoc], fun c hc => ?_⟩, fun c o p e hn hd => ?_, fun c h => a.dm c (b.dm c h), fun c o u h => b.kz c o u (a.kz c o u h)⟩
  · have q := a.fr c o p hc hn (isL_D hd)
    refine (b.fz c o p q ?_ hd).trans (a.fz c o p hc hn hd)
    rw [e1]
    intro z
    rcases List.mem_append.mp z with z | z
    · exact hn z
    · rw [h1 c z] at hc; cases hc
  · rcases List.mem_append.mp hc with z | z
    · exact h1 c z
    · exact a.dm c (h2 c z)
  · have q := a.fr c o p e hn hd
    refine b.fr c o p q ?_ hd
    rw [e1]
    intro z
    rcases List.mem_append.mp z with z | z
    · exact hn z
    · rw [h1 c z] at e; cases e
theorem GrS.gr (a : GrS (Pt.all H) H F as H' F' as') : Gr H F as H' F' as' := ⟨fun c o e => a.fz c o (show H c ≠ none by rw [e]; exact fun z => nomatch z) e, a.ff, a.nw, fun c o e => a.fr c o (show H c ≠ none by rw [e]; exact fun z => nomatch z) e, a.dm, a.kz⟩
theorem Gr.at_ (a : Gr H F as H' F' as') : ∀ (n : Nat) (c : Addr), as[n]? = some c → as'[n]? = some c := fun n c h => by
  obtain ⟨new, e, _⟩ := a.nw
  rw [e, List.getElem?_append_left (List.getElem?_eq_some_iff.mp h).1]
  exact h
theorem GrS.at_ (a : GrS P H F as H' F' as') : ∀ (n : Nat) (c : Addr), as[n]? = some c → as'[n]? = some c := fun n c h => by
  obtain ⟨new, e, _⟩ := a.nw
  rw [e, List.getElem?_append_left (List.getElem?_eq_some_iff.mp h).1]
  exact h
theorem Gr.out (a : Gr H F as H' F' as') {c : Addr} (h : c ∉ as) (e : H c ≠ none) : c ∉ as' := by
  obtain ⟨new, e1, h1⟩ := a.nw
  rw [e1]
  intro z
  rcases List.mem_append.mp z with z | z
  · exact h z
  · exact e (h1 c z)
theorem Rp.gr {K : Frag} {v : V} {d : D} (h : Rp K F as v d) (a : Gr H F as H' F' as') : Rp K F' as' v d := Rp.mono a.ff a.at_ d h
theorem Rps.gr {K : Frag} {v : List V} {d : List D} (h : Rps K F as v d) (a : Gr H F as H' F' as') : Rps K F' as' v d := Rps.mono a.ff a.at_ d h
theorem Rp.grS {K : Frag} {v : V} {d : D} (h : Rp K F as v d) (a : GrS P H F as H' F' as') : Rp K F' as' v d := Rp.mono a.ff a.at_ d h
end
structure FsR (K : Frag) (F : Hp) (as : List Addr) (gs : List (Str × V)) (fs : List (Str × D)) : Prop where
  nm : gs.map (·.1) = fs.map (·.1)
  vl : Rps K F as (gs.map (·.2)) (fs.map (·.2))
def ObR (K : Frag) (mg : Str → Option Value) (H F : Hp) (as : List Addr) (a : Addr) : Ob → Prop
  | .ins c fs => ∃ C dx gs, mg c = some (.ref C) ∧ H a = some (.ins C dx gs) ∧ FsR K F as gs fs
  | .ml ds => ∃ xs, H a = some (.lst xs) ∧ Rps K F as xs ds
  | .dt kvs => ∃ xs : List (List Key × V), H a = some (.dT xs) ∧ xs.map (·.1) = kvs.map (·.1) ∧ Rps K F as (xs.map (·.2)) (kvs.map (·.2))
  | .df kvs => ∃ (o : Obj) (xs : List (List Key × V)), H a = some (.frz o (.dT xs)) ∧ xs.map (·.1) = kvs.map (·.1) ∧ Rps K F as (xs.map (·.2)) (kvs.map (·.2))
structure RlO (K : Frag) (mg : Str → Option Value) (O : Store) (H F : Hp) (as : List Addr) : Prop where
  fh : Same F H
  fd : ∀ a o, F a = some o → isD o = true
  nd : as.Nodup
  len : as.length = O.length
  fa : ∀ a ∈ as, F a = none
  ob : ∀ (n : Nat) (a : Addr) (o : Ob), as[n]? = some a → O[n]? = some o → ObR K mg H F as a o
inductive Md where
  | v | s | o
  deriving DecidableEq
def notL : D → Bool
  | .lst _ => false
  | _ => true
def SlotR (P : Pt) (K : Frag) (H F : Hp) (as : List Addr) : Md → V → D → Prop
  | .v, v, d => Rp K F as v d
  | .s, v, d => Rp K F as v d ∨ ∃ a xs ds, v = .ref a ∧ d = .lst ds ∧ H a = some (.lst xs) ∧ a ∉ as ∧ P a ∧ Rps K F as xs ds
  | .o, v, d => (notL d = true ∧ Rp K F as v d) ∨ ∃ a xs ds, v = .ref a ∧ d = .lst ds ∧ H a = some (.lst xs) ∧ F a = none ∧ a ∉ as ∧ ¬ P a ∧ Rps K F as xs ds
structure SlO (K : Frag) (md : List Md) (P : Pt) (ρ : DEnv) (σ : St) (H F : Hp) (as : List Addr) : Prop where
  len : σ.length = md.length
  len' : ρ.length = md.length
  pd : ∀ a, P a → H a ≠ none
  sl : ∀ (i : Nat) (m : Md) (d : D), md[i]? = some m → ρ[i]? = some (some d) → ∃ v, σ[i]? = some (some v) ∧ SlotR P K H F as m v d
  inj : ∀ (i j : Nat) (a : Addr) (ds es : List D), md[i]? = some .o → md[j]? = some .o → ρ[i]? = some (some (.lst ds)) → ρ[j]? = some (some (.lst es)) → σ[i]? = some (some (.ref a)) → σ[j]? = some (some (.ref a)) → i = j
  pin : ∀ x ∈ P.ss, md[x.1]? = some .s ∧ ρ[x.1]? = some (some x.2.2) ∧ σ[x.1]? = some (some x.2.1)
section
variable {K : Frag} {mg : Str → Option Value} {md : List Md} {P : Pt} {ρ : DEnv} {σ : St} {H F H' F' : Hp} {as as' : List Addr} {O O' : Store}
theorem SlotR.step {m : Md} {v : V} {d : D} (h : SlotR P K H F as m v d) (g : Gr H F as H' F' as') : SlotR P K H' F' as' m v d := by
  cases m with
  | v => exact Rp.gr (show Rp K F as v d from h) g
  | s =>
    rcases h with h | ⟨a, xs, ds, e1, e2, e3, e4, e5, e6⟩
    · exact .inl (h.gr g)
    · exact .inr ⟨a, xs, ds, e1, e2, g.fr _ _ e3 e4 rfl, g.out e4 (by rw [e3]; exact fun z => nomatch z), e5, e6.gr g⟩
  | o =>
    rcases h with ⟨h1, h⟩ | ⟨a, xs, ds, e1, e2, e3, e0, e4, e5, e6⟩
    · exact .inl ⟨h1, h.gr g⟩
    · have hn : H a ≠ none := by rw [e3]; exact fun z => nomatch z
      exact .inr ⟨a, xs, ds, e1, e2, g.fr _ _ e3 e4 rfl, by rw [g.fz a _ e3 e4 rfl]; exact e0, g.out e4 hn, e5, e6.gr g⟩
theorem SlO.step (h : SlO K md P ρ σ H F as) (g : Gr H F as H' F' as') : SlO K md P ρ σ H' F' as' :=
  ⟨h.len, h.len', fun a p z => h.pd a p (g.dm a z), fun i m d e1 e2 => let ⟨v, q, r⟩ := h.sl i m d e1 e2; ⟨v, q, r.step g⟩, h.inj, h.pin⟩
end
def Sv (K : Frag) (H F : Hp) (as : List Addr) (v : V) (d : D) : Prop :=
  Rp K F as v d ∨ ∃ a xs ds, v = .ref a ∧ d = .lst ds ∧ H a = some (.lst xs) ∧ a ∉ as ∧ Rps K F as xs ds
def Lk (K : Frag) (H F : Hp) (as : List Addr) (v : V) (d : D) : Prop :=
  Rp K F as v d ∨ ∃ a xs ds, v = .ref a ∧ d = .lst ds ∧ H a = some (.lst xs) ∧ Rps K F as xs ds
def Ow (K : Frag) (N : Addr → Prop) (H F : Hp) (as : List Addr) (v : V) (d : D) : Prop :=
  (notL d = true ∧ Rp K F as v d) ∨ ∃ a xs ds, v = .ref a ∧ d = .lst ds ∧ H a = some (.lst xs) ∧ F a = none ∧ a ∉ as ∧ N a ∧ Rps K F as xs ds
def deref (O : Store) (d : D) : D := match d with
  | .ob n => match O[n]? with
    | some (.ml ds) => .lst ds
    | _ => .ob n
  | d => d
section
variable {K : Frag} {mg : Str → Option Value} {H0 H F H' F' : Hp} {as as' : List Addr} {O : Store} {v : V} {d : D}
theorem Sv.gr (h : Sv K H F as v d) (g : Gr H F as H' F' as') : Sv K H' F' as' v d := by
  rcases h with h | ⟨a, xs, ds, e1, e2, e3, e4, e5⟩
  · exact .inl (h.gr g)
  · exact .inr ⟨a, xs, ds, e1, e2, g.fr _ _ e3 e4 rfl, g.out e4 (by rw [e3]; exact fun z => nomatch z), e5.gr g⟩
theorem Sv.lk (h : Sv K H F as v d) (r : RlO K mg O H F as) : Lk K H F as v (deref O d) := by
  rcases h with h | ⟨a, xs, ds, rfl, rfl, e3, e4, e5⟩
  · cases d with
    | ob n =>
      obtain ⟨a, rfl, ha⟩ := h.unO
      unfold deref
      dsimp only
      split
      · rename_i ds e
        obtain ⟨xs, e1, e2⟩ := r.ob n a _ ha e
        exact .inr ⟨a, xs, ds, rfl, rfl, e1, e2⟩
      · exact .inl (Rp.mkO ha)
    | _ => exact .inl h
  · exact .inr ⟨a, xs, ds, rfl, rfl, e3, e5⟩
theorem Lk.list {ds : List D} (h : Lk K H F as v (.lst ds)) (fh : Same F H) : ∃ a xs, v = .ref a ∧ RdK K H a xs ∧ Rps K F as xs ds := by
  rcases h with h | ⟨a, xs, ds', e1, e2, e3, e4⟩
  · obtain ⟨a, xs, e, h1, h2⟩ := h.unL
    exact ⟨a, xs, e, h1.mono fh, h2⟩
  · cases e2
    exact ⟨a, xs, e1, .inl (.inl e3), e4⟩
theorem Lk.rp (h : Lk K H F as v d) (hn : notL d = true) : Rp K F as v d := by
  rcases h with h | ⟨a, xs, ds', e1, rfl, e3, e4⟩
  · exact h
  · cases hn
theorem Sv.rp (h : Sv K H F as v d) (hn : notL d = true) : Rp K F as v d := by
  rcases h with h | ⟨a, xs, ds', e1, rfl, e3, e4⟩
  · exact h
  · cases hn
theorem Ow.sv {N : Addr → Prop} (h : Ow K N H F as v d) : Sv K H F as v d := by
  rcases h with ⟨_, h⟩ | ⟨a, xs, ds, e1, e2, e3, e4, e5, e6, e7⟩
  · exact .inl h
  · exact .inr ⟨a, xs, ds, e1, e2, e3, e5, e7⟩
theorem Gr.lay {p : Addr} {o : HO} (hp : H p = none) : Gr H F as (upd H p o) F as :=
  ⟨fun _ _ _ _ _ => rfl, Same.refl F, ⟨[], by simp, fun _ h => nomatch h⟩, fun a o' e _ _ => by rw [upd_ne (ne_of_none e hp)]; exact e, fun a e => by
    by_cases h : a = p
    · subst h; exact hp
    · rwa [upd_ne h] at e, fun a o' u e => by rw [upd_ne (ne_of_none e hp)]; exact e⟩
theorem ObR.keep {a : Addr} {o : Ob} (h : ObR K mg H F as a o) (hH : H' a = H a) (e : Same F F') (ea : ∀ (n : Nat) (a : Addr), as[n]? = some a → as'[n]? = some a) : ObR K mg H' F' as' a o := by
  cases o with
  | ins c fs =>
    obtain ⟨C, dx, gs, h1, h2, h3, h4⟩ := h
    exact ⟨C, dx, gs, h1, by rw [hH]; exact h2, h3, Rps.mono e ea _ h4⟩
  | ml ds =>
    obtain ⟨xs, h1, h2⟩ := h
    exact ⟨xs, by rw [hH]; exact h1, Rps.mono e ea _ h2⟩
  | dt kvs =>
    obtain ⟨xs, h1, h2, h3⟩ := h
    exact ⟨xs, by rw [hH]; exact h1, h2, Rps.mono e ea _ h3⟩
  | df kvs =>
    obtain ⟨o, xs, h1, h2, h3⟩ := h
    exact ⟨o, xs, by rw [hH]; exact h1, h2, Rps.mono e ea _ h3⟩
theorem RlO.at {n : Nat} {a : Addr} {o : Ob} (r : RlO K mg O H F as) (ha : as[n]? = some a) (ho : O[n]? = some o) : H a ≠ none := by
  have q := r.ob n a o ha ho
  cases o with
  | ins c fs => obtain ⟨C, dx, gs, h1, h2, _⟩ := q; rw [h2]; exact fun z => nomatch z
  | ml ds => obtain ⟨xs, h1, _⟩ := q; rw [h1]; exact fun z => nomatch z
  | dt kvs => obtain ⟨xs, h1, _⟩ := q; rw [h1]; exact fun z => nomatch z
  | df kvs => obtain ⟨o, xs, h1, _⟩ := q; rw [h1]; exact fun z => nomatch z
theorem RlO.all {a : Addr} (r : RlO K mg O H F as) (ha : a ∈ as) : H a ≠ none := by
  obtain ⟨n, hn, e⟩ := List.mem_iff_getElem.mp ha
  have hO : n < O.length := by rw [← r.len]; exact hn
  exact r.at (n := n) (by rw [List.getElem?_eq_getElem hn, e]) (List.getElem?_eq_getElem hO)
theorem RlO.lay {p : Addr} {o : HO} (r : RlO K mg O H F as) (hp : H p = none) : RlO K mg O (upd H p o) F as := by
  refine ⟨fun a u e => ?_, r.fd, r.nd, r.len, r.fa, fun n a u ha hu => (r.ob n a u ha hu).keep (upd_ne ?_) (Same.refl F) fun _ _ h => h⟩
  · have q := r.fh a u e
    rw [upd_ne (ne_of_none q hp)]; exact q
  · intro z; subst z; exact r.at ha hu hp
theorem Gr.frz {p : Addr} {o : HO} (hp : H p = none) (g : Gr H F as H' F' as') (hf : F' p = none) : Gr H F as H' (upd F' p o) as' :=
  ⟨fun a o' ha hn hd => by rw [upd_ne (fun z => by subst z; rw [hp] at ha; cases ha)]; exact g.fz a o' ha hn hd, fun a u e => by
    have q := g.ff a u e
    rw [upd_ne (ne_of_none q hf)]; exact q, g.nw, g.fr, g.dm, g.kz⟩
theorem RlO.frz {p : Addr} {o : HO} (r : RlO K mg O H F as) (hp : H p = some o) (hf : F p = none) (ha : p ∉ as) (hd : isD o = true) : RlO K mg O H (upd F p o) as := by
  have ff : Same F (upd F p o) := fun a u e => by rw [upd_ne (ne_of_none e hf)]; exact e
  refine ⟨fun a u e => ?_, fun a u e => ?_, r.nd, r.len, fun a h => ?_, fun n a u h1 h2 => (r.ob n a u h1 h2).keep rfl ff fun _ _ h => h⟩
  · by_cases h : a = p
    · subst h; rw [upd_same] at e; cases e; exact hp
    · rw [upd_ne h] at e; exact r.fh a u e
  · by_cases h : a = p
    · subst h; rw [upd_same] at e; cases e; exact hd
    · rw [upd_ne h] at e; exact r.fd a u e
  · rw [upd_ne (fun z => by subst z; exact ha h)]; exact r.fa a h
end
end L2
namespace L2
open PySem PySem.Spec PyProof.Rows
abbrev RR := (Addr → Prop) → Hp → Hp → List Addr → V → D → Prop
def rV (K : Frag) : RR := fun _ _ F as v d => Rp K F as v d
def rS (K : Frag) : RR := fun _ H F as v d => Sv K H F as v d
def rO (K : Frag) : RR := fun N H F as v d => Ow K N H F as v d
def rA (K : Frag) : Md → RR
  | .v => rV K
  | _ => rS K
def RRok (R : RR) : Prop := ∀ (N N' : Addr → Prop) (H F : Hp) (as : List Addr) (v : V) (d : D), (∀ a, N a → N' a) → R N H F as v d → R N' H F as v d
theorem rV_ok {K : Frag} : RRok (rV K) := fun _ _ _ _ _ _ _ _ h => h
theorem rO_ok {K : Frag} : RRok (rO K) := fun N N' H F as v d hn h => by
  rcases h with h | ⟨a, xs, ds, e1, e2, e3, e4, e5, e6, e7⟩
  · exact .inl h
  · exact .inr ⟨a, xs, ds, e1, e2, e3, e4, e5, hn a e6, e7⟩
def tM (K : Frag) (mg : Str → Option Value) (md : List Md) (P : Pt) (R : RR) (m : M D) : TE := fun σ H Q =>
  ∃ ρ O F as d O', RlO K mg O H F as ∧ SlO K md P ρ σ H F as ∧ m ρ O = .ok d O' ∧
    ∀ v H' F' as', Gr H F as H' F' as' → RlO K mg O' H' F' as' → R (fun a => H a = none) H' F' as' v d → Q v H'
def tMT (K : Frag) (mg : Str → Option Value) (md : List Md) (P : Pt) (m : M Bool) : TT := fun σ H Q =>
  ∃ ρ O F as b O', RlO K mg O H F as ∧ SlO K md P ρ σ H F as ∧ m ρ O = .ok b O' ∧
    ∀ H' F' as', Gr H F as H' F' as' → RlO K mg O' H' F' as' → Q b H'
def ArgsR (K : Frag) (H F : Hp) (as : List Addr) : List Md → List V → List D → Prop
  | [], [], [] => True
  | m :: ms, v :: vs, d :: ds => rA K m (fun _ => True) H F as v d ∧ ArgsR K H F as ms vs ds
  | _, _, _ => False
def tMA (K : Frag) (mg : Str → Option Value) (md : List Md) (P : Pt) (ms : List Md) (m : M (List D)) : TA := fun σ H Q =>
  ∃ ρ O F as ds O', RlO K mg O H F as ∧ SlO K md P ρ σ H F as ∧ m ρ O = .ok ds O' ∧
    ∀ vs H' F' as', Gr H F as H' F' as' → RlO K mg O' H' F' as' → ArgsR K H' F' as' ms vs ds → Q vs H'
def XE (X : Cx) (md : List Md) (P : Pt) (R : RR) (e : Expr) (m : M D) : Prop := PE X e (tM X.K X.mg md P R m)
def VE (X : Cx) (md : List Md) (P : Pt) (e : Expr) (m : M D) : Prop := PE X e (tM X.K X.mg md P (rV X.K) m)
def SE (X : Cx) (md : List Md) (P : Pt) (e : Expr) (m : M D) : Prop := PE X e (tM X.K X.mg md P (rS X.K) m)
def OE (X : Cx) (md : List Md) (P : Pt) (e : Expr) (m : M D) : Prop := PE X e (tM X.K X.mg md P (rO X.K) m)
def TsE (X : Cx) (md : List Md) (P : Pt) (e : Expr) (m : M Bool) : Prop := PT X e (tMT X.K X.mg md P m)
def TwE (X : Cx) (md : List Md) (P : Pt) (e : Expr) (m : M Bool) : Prop := PW X e (tMT X.K X.mg md P m)
def AE (X : Cx) (md : List Md) (P : Pt) (ms : List Md) (es : List Expr) (m : M (List D)) : Prop := PA X es (tMA X.K X.mg md P ms m)
def FlOk (K : Frag) (mg : Str → Option Value) (md : List Md) (P : Pt) (R : RR) (D : Ends) (H F : Hp) (as : List Addr) : Fl → Prop
  | .nx ρ' O' => ∀ σ' H' F' as', GrS P H F as H' F' as' → RlO K mg O' H' F' as' → SlO K md P ρ' σ' H' F' as' → D.nx σ' H'
  | .bk ρ' O' => ∀ σ' H' F' as', GrS P H F as H' F' as' → RlO K mg O' H' F' as' → SlO K md P ρ' σ' H' F' as' → D.bk σ' H'
  | .ct ρ' O' => ∀ σ' H' F' as', GrS P H F as H' F' as' → RlO K mg O' H' F' as' → SlO K md P ρ' σ' H' F' as' → D.ct σ' H'
  | .rt d O' => ∀ v H' F' as', GrS P H F as H' F' as' → RlO K mg O' H' F' as' → R (fun a => ¬ P a) H' F' as' v d → D.rt v H'
  | .ex _ _ => False
  | .no => False
def tMS (K : Frag) (mg : Str → Option Value) (md : List Md) (P : Pt) (R : RR) (m : MS) : TS := fun D σ H =>
  ∃ ρ O F as, RlO K mg O H F as ∧ SlO K md P ρ σ H F as ∧ FlOk K mg md P R D H F as (m ρ O)
def VS (X : Cx) (md : List Md) (P : Pt) (R : RR) (st : Stmt) (m : MS) : Prop := PS X st (tMS X.K X.mg md P R m)
def VSs (X : Cx) (md : List Md) (P : Pt) (R : RR) (st : List Stmt) (m : MS) : Prop := PSs X st (tMS X.K X.mg md P R m)
section
variable {X : Cx} {md : List Md} {P : Pt} {R : RR}
theorem PE.imp {e : Expr} {t t' : TE} (h : PE X e t) (k : ∀ σ H Q, t' σ H Q → t σ H Q) : PE X e t' := fun pins s σ H Q I q => h pins s σ H Q I (k σ H Q q)
theorem PT.imp {e : Expr} {t t' : TT} (h : PT X e t) (k : ∀ σ H Q, t' σ H Q → t σ H Q) : PT X e t' := fun pins s σ H Q I q => h pins s σ H Q I (k σ H Q q)
theorem PW.imp {e : Expr} {t t' : TT} (h : PW X e t) (k : ∀ σ H Q, t' σ H Q → t σ H Q) : PW X e t' := fun w pins s σ H Q I q => h w pins s σ H Q I (k σ H Q q)
theorem PA.imp {e : List Expr} {t t' : TA} (h : PA X e t) (k : ∀ σ H Q, t' σ H Q → t σ H Q) : PA X e t' := fun pos pins s σ H Q I q => h pos pins s σ H Q I (k σ H Q q)
theorem PS.imp {e : Stmt} {t t' : TS} (h : PS X e t) (k : ∀ D σ H, t' D σ H → t D σ H) : PS X e t' := fun pins s σ H D I q => h pins s σ H D I (k D σ H q)
theorem PSs.imp {e : List Stmt} {t t' : TS} (h : PSs X e t) (k : ∀ D σ H, t' D σ H → t D σ H) : PSs X e t' := fun pins s σ H D I q => h pins s σ H D I (k D σ H q)
def mVar (i : Nat) : M D := fun ρ O => match ρ[i]? with
  | some (some d) => .ok d O
  | _ => .no
def mC (d : D) : M D := fun _ O => .ok d O
def mG (m : M D) : M D := fun ρ O => match m ρ O with
  | .ok d O' => if notL d = true then .ok d O' else .no
  | r => r
theorem mVar_ok {i : Nat} {ρ : DEnv} {O O' : Store} {d : D} (h : mVar i ρ O = .ok d O') : ρ[i]? = some (some d) ∧ O' = O := by
  unfold mVar at h
  split at h
  · rename_i d' e
    cases h
    exact ⟨e, rfl⟩
  · cases h
theorem mG_ok {m : M D} {ρ : DEnv} {O O' : Store} {d : D} (h : mG m ρ O = .ok d O') : m ρ O = .ok d O' ∧ notL d = true := by
  unfold mG at h
  split at h
  · rename_i d' O1 e
    split at h
    · rename_i hn
      cases h
      exact ⟨e, hn⟩
    · cases h
  · rename_i hne
    exact absurd h (hne _ _)
theorem SlO.get {K : Frag} {ρ : DEnv} {σ : St} {H F : Hp} {as : List Addr} {i : Nat} {d : D} (s : SlO K md P ρ σ H F as) (h : ρ[i]? = some (some d)) : ∃ m v, md[i]? = some m ∧ σ[i]? = some (some v) ∧ SlotR P K H F as m v d := by
  have hi : i < md.length := by rw [← s.len']; exact (List.getElem?_eq_some_iff.mp h).1
  obtain ⟨v, h1, h2⟩ := s.sl i md[i] d (List.getElem?_eq_getElem hi) h
  exact ⟨_, v, List.getElem?_eq_getElem hi, h1, h2⟩
theorem SlotR.sv {K : Frag} {H F : Hp} {as : List Addr} {m : Md} {v : V} {d : D} (h : SlotR P K H F as m v d) : Sv K H F as v d := by
  cases m with
  | v => exact .inl h
  | s =>
    rcases h with h | ⟨a, xs, ds, e1, e2, e3, e4, e5, e6⟩
    · exact .inl h
    · exact .inr ⟨a, xs, ds, e1, e2, e3, e4, e6⟩
  | o =>
    rcases h with ⟨_, h⟩ | ⟨a, xs, ds, e1, e2, e3, e0, e4, e5, e6⟩
    · exact .inl h
    · exact .inr ⟨a, xs, ds, e1, e2, e3, e4, e6⟩
theorem se_var (i : Nat) {x : Str} {pos : Pos} (hN : X.N[i]? = some x := by rfl) (hv : Vis X.env.scope x := by first | exact Or.inl rfl | exact Or.inr (Or.inl rfl) | exact Or.inr (Or.inr rfl))
    (hd : (x == ("__debug__" : Str)) = false := by decide) (hcd : (x == ("__classdict__" : Str)) = false := by decide) : SE X md P (.Name x pos) (mVar i) := by
  refine (pe_var (i := i) hN hv hd hcd).imp fun σ H Q h => ?_
  obtain ⟨ρ, O, F, as, d, O', r, s, e, k⟩ := h
  obtain ⟨e1, rfl⟩ := mVar_ok e
  obtain ⟨m, v, h1, h2, h3⟩ := s.get e1
  exact ⟨v, h2, k v H F as Gr.refl r h3.sv⟩
theorem ve_var (i : Nat) {x : Str} {pos : Pos} (hm : md[i]? = some .v := by rfl) (hN : X.N[i]? = some x := by rfl) (hv : Vis X.env.scope x := by first | exact Or.inl rfl | exact Or.inr (Or.inl rfl) | exact Or.inr (Or.inr rfl))
    (hd : (x == ("__debug__" : Str)) = false := by decide) (hcd : (x == ("__classdict__" : Str)) = false := by decide) : VE X md P (.Name x pos) (mVar i) := by
  refine (pe_var (i := i) hN hv hd hcd).imp fun σ H Q h => ?_
  obtain ⟨ρ, O, F, as, d, O', r, s, e, k⟩ := h
  obtain ⟨e1, rfl⟩ := mVar_ok e
  obtain ⟨v, h2, h3⟩ := s.sl i .v d hm e1
  exact ⟨v, h2, k v H F as Gr.refl r h3⟩
theorem se_ve {e : Expr} {m : M D} (h : VE X md P e m) : SE X md P e m := h.imp fun σ H Q q => by
  obtain ⟨ρ, O, F, as, d, O', r, s, e, k⟩ := q
  exact ⟨ρ, _, F, as, _, _, r, s, e, fun v H' F' as' g r' hv => k v H' F' as' g r' (.inl hv)⟩
theorem se_oe {e : Expr} {m : M D} (h : OE X md P e m) : SE X md P e m := h.imp fun σ H Q q => by
  obtain ⟨ρ, O, F, as, d, O', r, s, e, k⟩ := q
  exact ⟨ρ, _, F, as, _, _, r, s, e, fun v H' F' as' g r' hv => k v H' F' as' g r' (Ow.sv hv)⟩
theorem ve_se {e : Expr} {m : M D} (h : SE X md P e m) : VE X md P e (mG m) := h.imp fun σ H Q q => by
  obtain ⟨ρ, O, F, as, d, O', r, s, e, k⟩ := q
  obtain ⟨e, hn⟩ := mG_ok e
  exact ⟨ρ, _, F, as, _, _, r, s, e, fun v H' F' as' g r' hv => k v H' F' as' g r' (Sv.rp hv hn)⟩
theorem ve_oe {e : Expr} {m : M D} (h : OE X md P e m) : VE X md P e m := h.imp fun σ H Q q => by
  obtain ⟨ρ, O, F, as, d, O', r, s, e, k⟩ := q
  refine ⟨ρ, _, F, as, _, _, r, s, e, fun v H' F' as' g r' hv => ?_⟩
  rcases hv with ⟨_, hv⟩ | ⟨a, xs, ds, rfl, rfl, e3, e4, e5, e6, e7⟩
  · exact k v H' F' as' g r' hv
  · have ff : Same F' (upd F' a (.lst xs)) := fun b u q => by rw [upd_ne (ne_of_none q e4)]; exact q
    refine k _ H' (upd F' a (.lst xs)) as' (g.frz e6 e4) (r'.frz e3 e4 e5 rfl) (Rp.mkL (.inl (.inl upd_same)) (Rps.mono ff (fun _ _ z => z) _ e7))
theorem ve_c {e : Expr} {v : V} {d : D} (h : PE X e (tC v)) (hd : ∀ K F as, Rp K F as v d) : VE X md P e (mC d) := h.imp fun σ H Q q => by
  obtain ⟨ρ, O, F, as, d, O', r, s, e, k⟩ := q
  cases e
  exact k v H F as Gr.refl r (hd _ _ _)
theorem ve_int {i : Int} {j pos} : VE X md P (.Constant (.int i) j pos) (mC (.int i)) := ve_c pe_int fun _ _ _ => Rp.int
theorem ve_bl {b : Bool} {j pos} : VE X md P (.Constant (.bool b) j pos) (mC (.bl b)) := ve_c pe_bl fun _ _ _ => Rp.bl
theorem ve_non {j pos} : VE X md P (.Constant .none j pos) (mC .non) := ve_c pe_non fun _ _ _ => Rp.non
theorem ve_str {x : Str} {j pos} (l : List Nat) (hx : x = S l := by decide +kernel) : VE X md P (.Constant (.str x) j pos) (mC (.str l)) := ve_c pe_str fun _ _ _ => by rw [hx]; exact Rp.str
theorem ve_const {x : Str} {v : V} {d : D} {pos : Pos} (h : ∃ u, X.mg x = some u ∧ RelV v u) (hd : ∀ K F as, Rp K F as v d) (hg : Gl X x := by rfl) (hdb : (x == ("__debug__" : Str)) = false := by decide) : VE X md P (.Name x pos) (mC d) := ve_c (pe_const h hg hdb) hd
def maNil : M (List D) := fun _ O => .ok [] O
def maCons (m : M D) (r : M (List D)) : M (List D) := fun ρ O => (m ρ O).bind fun d O1 => (r ρ O1).bind fun ds O2 => .ok (d :: ds) O2
theorem ae_nil : AE X md P [] [] maNil := pa_nil.imp fun σ H Q q => by
  obtain ⟨ρ, O, F, as, d, O', r, s, e, k⟩ := q
  cases e
  exact k [] H F as Gr.refl r trivial
theorem rA.gr {K : Frag} {m : Md} {N : Addr → Prop} {H F H' F' : Hp} {as as' : List Addr} {v : V} {d : D} (h : rA K m N H F as v d) (g : Gr H F as H' F' as') : rA K m (fun _ => True) H' F' as' v d := by
  cases m with
  | v => exact Rp.gr (show Rp K F as v d from h) g
  | s => exact Sv.gr (show Sv K H F as v d from h) g
  | o => exact Sv.gr (show Sv K H F as v d from h) g
theorem ArgsR.gr {K : Frag} {H F H' F' : Hp} {as as' : List Addr} (g : Gr H F as H' F' as') : ∀ {ms : List Md} {vs : List V} {ds : List D}, ArgsR K H F as ms vs ds → ArgsR K H' F' as' ms vs ds
  | [], [], [], _ => trivial
  | m :: ms, v :: vs, d :: ds, h => ⟨rA.gr h.1 g, ArgsR.gr g h.2⟩
  | [], [], _ :: _, h => h.elim
  | [], _ :: _, [], h => h.elim
  | [], _ :: _, _ :: _, h => h.elim
  | _ :: _, [], [], h => h.elim
  | _ :: _, [], _ :: _, h => h.elim
  | _ :: _, _ :: _, [], h => h.elim
theorem ae_cons (md0 : Md) {e : Expr} {es : List Expr} {m : M D} {ms : List Md} {r : M (List D)} (h : XE X md P (rA X.K md0) e m) (hr : AE X md P ms es r)
    (hs : starEach (e :: es) X.env = (false, eval e X.env) :: starEach es X.env := by exact starC rfl) : AE X md P (md0 :: ms) (e :: es) (maCons m r) := (pa_cons h hr hs).imp fun σ H Q q => by
  obtain ⟨ρ, O, F, as, d, O', r0, s, e, k⟩ := q
  obtain ⟨d, O1, e1, e⟩ := Res.bind_ok e
  obtain ⟨ds', O2, e2, e⟩ := Res.bind_ok e
  cases e
  refine ⟨ρ, _, F, as, _, _, r0, s, e1, fun v H1 F1 as1 g1 r1 hv => ?_⟩
  refine ⟨ρ, _, F1, as1, _, _, r1, s.step g1, e2, fun vs H2 F2 as2 g2 r2 hvs => ?_⟩
  exact k (v :: vs) H2 F2 as2 (g1.trans g2) r2 ⟨rA.gr hv g2, hvs⟩
theorem ae_v {e : Expr} {es : List Expr} {m : M D} {ms : List Md} {r : M (List D)} (h : VE X md P e m) (hr : AE X md P ms es r)
    (hs : starEach (e :: es) X.env = (false, eval e X.env) :: starEach es X.env := by exact starC rfl) : AE X md P (.v :: ms) (e :: es) (maCons m r) := ae_cons .v h hr hs
theorem ae_s {e : Expr} {es : List Expr} {m : M D} {ms : List Md} {r : M (List D)} (h : SE X md P e m) (hr : AE X md P ms es r)
    (hs : starEach (e :: es) X.env = (false, eval e X.env) :: starEach es X.env := by exact starC rfl) : AE X md P (.s :: ms) (e :: es) (maCons m r) := ae_cons .s h hr hs
theorem ArgsR.rps {K : Frag} {H F : Hp} {as : List Addr} : ∀ {n : Nat} {vs : List V} {ds : List D}, ArgsR K H F as (List.replicate n .v) vs ds → Rps K F as vs ds
  | 0, [], [], _ => Rps.nil
  | n + 1, v :: vs, d :: ds, h => by
    rw [List.replicate_succ] at h
    exact Rps.cons h.1 (ArgsR.rps h.2)
  | 0, [], _ :: _, h => h.elim
  | 0, _ :: _, [], h => h.elim
  | 0, _ :: _, _ :: _, h => h.elim
  | n + 1, [], [], h => h.elim
  | n + 1, [], _ :: _, h => h.elim
  | n + 1, _ :: _, [], h => h.elim
def mLst (r : M (List D)) : M D := fun ρ O => (r ρ O).bind fun ds O1 => if ds.length ≤ 1000000 then .ok (.lst ds) O1 else .no
def mTup (r : M (List D)) : M D := fun ρ O => (r ρ O).bind fun ds O1 => if ds.length ≤ 1000000 then .ok (.tup ds) O1 else .no
theorem size6 {n : Nat} (h : n ≤ 1000000) : n ≤ sizeLine := Nat.le_trans h (by decide)
theorem oe_lst {es : List Expr} {pos : Pos} {r : M (List D)} (n : Nat) (h : AE X md P (List.replicate n .v) es r) : OE X md P (.List es pos) (mLst r) := (pe_lst h).imp fun σ H Q q => by
  obtain ⟨ρ, O, F, as, d, O', r0, s, e, k⟩ := q
  obtain ⟨ds, O1, e1, e⟩ := Res.bind_ok e
  split at e
  · rename_i hz
    cases e
    refine ⟨ρ, _, F, as, _, _, r0, s, e1, fun vs H1 F1 as1 g1 r1 hv => ?_⟩
    have hr := hv.rps
    refine ⟨by rw [hr.length]; exact size6 hz, fun p hp => ?_⟩
    have hF : F1 p = none := by
      cases q : F1 p with
      | none => rfl
      | some o => rw [r1.fh p o q] at hp; cases hp
    refine k _ _ F1 as1 (g1.trans (Gr.lay hp)) (r1.lay hp) (.inr ⟨p, vs, ds, rfl, rfl, upd_same, hF, fun z => r1.all z hp, g1.dm p hp, hr⟩)
  · cases e
theorem ve_tup {es : List Expr} {pos : Pos} {x1} {r : M (List D)} (n : Nat) (h : AE X md P (List.replicate n .v) es r) : VE X md P (.Tuple es x1 pos) (mTup r) := (pe_tup h).imp fun σ H Q q => by
  obtain ⟨ρ, O, F, as, d, O', r0, s, e, k⟩ := q
  obtain ⟨ds, O1, e1, e⟩ := Res.bind_ok e
  split at e
  · rename_i hz
    cases e
    refine ⟨ρ, _, F, as, _, _, r0, s, e1, fun vs H1 F1 as1 g1 r1 hv => ?_⟩
    have hr := hv.rps
    refine ⟨by rw [hr.length]; exact size6 hz, fun p hp => ?_⟩
    have hF : F1 p = none := by
      cases q : F1 p with
      | none => rfl
      | some o => rw [r1.fh p o q] at hp; cases hp
    have ff : Same F1 (upd F1 p (.tup vs)) := fun b u q => by rw [upd_ne (ne_of_none q hF)]; exact q
    refine k _ _ (upd F1 p (.tup vs)) as1 ((g1.trans (Gr.lay hp)).frz (g1.dm p hp) hF) ((r1.lay hp).frz upd_same hF (fun z => r1.all z hp) rfl) (Rp.mkT (.inl upd_same) (Rps.mono ff (fun _ _ z => z) _ hr))
  · cases e
def rD (K : Frag) (mg : Str → Option Value) (g : D → D → Option D) : R2 := fun x y H Q => ∃ O F as dx dy d, RlO K mg O H F as ∧ Lk K H F as x dx ∧ Lk K H F as y dy ∧ g dx dy = some d ∧
  ∀ v' H' F', Gr H F as H' F' as → RlO K mg O H' F' as → Ow K (fun a => H a = none) H' F' as v' d → Q v' H'
abbrev OpD (X : Cx) (f : Value → Value → Sem Value) (g : D → D → Option D) : Prop := OpR X f (rD X.K X.mg g)
def mBin (g : D → D → Option D) (ma mb : M D) : M D := fun ρ O => (ma ρ O).bind fun x O1 => (mb ρ O1).bind fun y O2 => match g (deref O2 x) (deref O2 y) with
  | some d => .ok d O2
  | none => .no
theorem bin_go {K : Frag} {mg : Str → Option Value} {g : D → D → Option D} {ma mb : M D} {σ : St} {H : Hp} {Q : VK} (h : tM K mg md P (rO K) (mBin g ma mb) σ H Q) : tOp (rD K mg g) (tM K mg md P (rS K) ma) (tM K mg md P (rS K) mb) σ H Q := by
  obtain ⟨ρ, O, F, as, d, O', r, sl, e, k⟩ := h
  obtain ⟨x, O1, e1, e⟩ := Res.bind_ok e
  obtain ⟨y, O2, e2, e⟩ := Res.bind_ok e
  split at e
  · rename_i d' hg
    cases e
    refine ⟨ρ, _, F, as, _, _, r, sl, e1, fun v H1 F1 as1 g1 r1 hv => ?_⟩
    refine ⟨ρ, _, F1, as1, _, _, r1, sl.step g1, e2, fun u H2 F2 as2 g2 r2 hu => ?_⟩
    refine ⟨_, F2, as2, _, _, _, r2, Sv.lk (Sv.gr hv g2) r2, Sv.lk hu r2, hg, fun v' H' F' g' r' hw => ?_⟩
    exact k v' H' F' as2 ((g1.trans g2).trans g') r' (rO_ok _ _ _ _ _ _ _ (fun a ha => (g1.trans g2).dm a ha) hw)
  · cases e
theorem oe_bin {e1 e2 : Expr} {pos : Pos} {op : Operator} {g : D → D → Option D} {ma mb : M D} (ho : OpD X (binaryOp op) g) (ha : SE X md P e1 ma) (hb : SE X md P e2 mb) : OE X md P (.BinOp e1 op e2 pos) (mBin g ma mb) :=
  (pe_op ho ha hb).imp fun _ _ _ => bin_go
theorem oe_cmp {e1 e2 : Expr} {pos : Pos} {op : CmpOp} {g : D → D → Option D} {ma mb : M D} (ho : OpD X (compareOp op) g) (ha : SE X md P e1 ma) (hb : SE X md P e2 mb) (hm : behindInMarks op e2 = false) : OE X md P (.Compare e1 [op] [e2] pos) (mBin g ma mb) :=
  (pe_cmpR ho ha hb hm).imp fun _ _ _ => bin_go
def mTest (m : M D) : M Bool := fun ρ O => (m ρ O).bind fun d O1 => match d with
  | .bl b => .ok b O1
  | _ => .no
theorem test_go {K : Frag} {mg : Str → Option Value} {m : M D} {σ : St} {H : Hp} {Q : Bool → Hp → Prop} (h : tMT K mg md P (mTest m) σ H Q) : tTest (tM K mg md P (rO K) m) σ H Q := by
  obtain ⟨ρ, O, F, as, d, O', r, sl, e, k⟩ := h
  obtain ⟨d, O1, e1, e⟩ := Res.bind_ok e
  cases d with
  | bl c =>
    cases e
    refine ⟨ρ, _, F, as, _, _, r, sl, e1, fun v H1 F1 as1 g1 r1 hv => ?_⟩
    rcases hv with ⟨_, hv⟩ | ⟨a, xs, ds, _, e2, _⟩
    · exact ⟨_, hv.unB, k H1 F1 as1 g1 r1⟩
    · cases e2
  | _ => cases e
theorem ts_cmp {e1 e2 : Expr} {pos : Pos} {op : CmpOp} {g : D → D → Option D} {ma mb : M D} (ho : OpD X (compareOp op) g) (ha : SE X md P e1 ma) (hb : SE X md P e2 mb) (hm : behindInMarks op e2 = false) : TsE X md P (.Compare e1 [op] [e2] pos) (mTest (mBin g ma mb)) :=
  (pt_cmpR ho ha hb hm).imp fun σ H Q h => by
    have q := test_go h
    exact bin_go q
def mChain (g g' : D → D → Option D) (ma mb mc : M D) : M D := fun ρ O => (ma ρ O).bind fun x O1 => (mb ρ O1).bind fun y O2 => match g (deref O2 x) (deref O2 y) with
  | some (.bl true) => (mc ρ O2).bind fun z O3 => match g' (deref O3 y) (deref O3 z) with
    | some d => .ok d O3
    | none => .no
  | some (.bl false) => .ok (.bl false) O2
  | _ => .no
theorem chain_go {K : Frag} {mg : Str → Option Value} {g g' : D → D → Option D} {ma mb mc : M D} {σ : St} {H : Hp} {Q : VK} (h : tM K mg md P (rO K) (mChain g g' ma mb mc) σ H Q) :
    tChain (rD K mg g) (rD K mg g') (tM K mg md P (rS K) ma) (tM K mg md P (rS K) mb) (tM K mg md P (rS K) mc) σ H Q := by
  obtain ⟨ρ, O, F, as, d, O', r, sl, e, k⟩ := h
  obtain ⟨x, O1, e1, e⟩ := Res.bind_ok e
  obtain ⟨y, O2, e2, e⟩ := Res.bind_ok e
  refine ⟨ρ, _, F, as, _, _, r, sl, e1, fun v H1 F1 as1 g1 r1 hv => ?_⟩
  refine ⟨ρ, _, F1, as1, _, _, r1, sl.step g1, e2, fun u H2 F2 as2 g2 r2 hu => ?_⟩
  split at e
  · rename_i hg
    obtain ⟨z, O3, e3, e⟩ := Res.bind_ok e
    refine ⟨_, F2, as2, _, _, _, r2, Sv.lk (Sv.gr hv g2) r2, Sv.lk hu r2, hg, fun v' H' F' g' r' hw => ?_⟩
    rcases hw with ⟨_, hw⟩ | ⟨a, xs, ds, _, z, _⟩
    · refine ⟨true, hw.unB, ?_⟩
      rw [if_pos rfl]
      split at e
      · rename_i d' hg'
        cases e
        have g3 := (g1.trans g2).trans g'
        refine ⟨ρ, _, F', as2, _, _, r', sl.step g3, e3, fun w H4 F4 as4 g4 r4 hz => ?_⟩
        refine ⟨_, F4, as4, _, _, _, r4, Sv.lk (Sv.gr (Sv.gr hu g') g4) r4, Sv.lk hz r4, hg', fun v5 H5 F5 g5 r5 hw5 => ?_⟩
        exact k v5 H5 F5 as4 ((g3.trans g4).trans g5) r5 (rO_ok _ _ _ _ _ _ _ (fun a ha => (g3.trans g4).dm a ha) hw5)
      · cases e
    · cases z
  · rename_i hg
    cases e
    refine ⟨_, F2, as2, _, _, _, r2, Sv.lk (Sv.gr hv g2) r2, Sv.lk hu r2, hg, fun v' H' F' g' r' hw => ?_⟩
    rcases hw with ⟨_, hw⟩ | ⟨a, xs, ds, _, z, _⟩
    · refine ⟨false, hw.unB, ?_⟩
      rw [if_neg Bool.false_ne_true]
      exact k _ H' F' as2 ((g1.trans g2).trans g') r' (.inl ⟨rfl, Rp.bl⟩)
    · cases z
  · cases e
theorem oe_chain {a b c : Expr} {pos : Pos} {op op' : CmpOp} {g g' : D → D → Option D} {ma mb mc : M D} (ho : OpD X (compareOp op) g) (ho' : OpD X (compareOp op') g') (ha : SE X md P a ma) (hb : SE X md P b mb) (hc : SE X md P c mc)
    (hm : lastMarks [op, op'] [b, c] = false := by with_unfolding_all rfl) : OE X md P (.Compare a [op, op'] [b, c] pos) (mChain g g' ma mb mc) := (pe_chain ho ho' ha hb hc hm).imp fun _ _ _ => chain_go
def isNon : D → Bool
  | .non => true
  | _ => false
def mIsN (m : M D) : M D := fun ρ O => (m ρ O).bind fun d O1 => .ok (.bl (isNon d)) O1
def mNotN (m : M D) : M D := fun ρ O => (m ρ O).bind fun d O1 => .ok (.bl (!isNon d)) O1
theorem Sv.isN {K : Frag} {H F : Hp} {as : List Addr} {v : V} {d : D} (h : Sv K H F as v d) : decide (v = .non) = isNon d := by
  rcases h with h | ⟨a, xs, ds, rfl, rfl, _⟩
  · cases d with
    | non => rw [h.unN]; rfl
    | bl b => rw [h.unB]; rfl
    | int b => rw [h.unI]; rfl
    | str b => rw [h.unS]; rfl
    | lst b => obtain ⟨a, xs, rfl, _⟩ := h.unL; rfl
    | tup b => obtain ⟨a, xs, rfl, _⟩ := h.unT; rfl
    | dic k b => obtain ⟨a, xs, rfl, _⟩ := h.unD; rfl
    | ob b => obtain ⟨a, rfl, _⟩ := h.unO; rfl
  · rfl
theorem notN_go {K : Frag} {mg : Str → Option Value} {m : M D} {σ : St} {H : Hp} {Q : VK} (h : tM K mg md P (rO K) (mNotN m) σ H Q) : tNotN (tM K mg md P (rS K) m) σ H Q := by
  obtain ⟨ρ, O, F, as, d, O', r, sl, e, k⟩ := h
  obtain ⟨x, O1, e1, e⟩ := Res.bind_ok e
  cases e
  refine ⟨ρ, _, F, as, _, _, r, sl, e1, fun v H1 F1 as1 g1 r1 hv => ?_⟩
  dsimp only
  rw [Sv.isN hv]
  exact k _ H1 F1 as1 g1 r1 (.inl ⟨rfl, Rp.bl⟩)
theorem tB_go {t t' : TE} {σ : St} {H : Hp} {Q : Bool → Hp → Prop} (h : ∀ Q', t σ H Q' → t' σ H Q') (q : tTest t σ H Q) : tB t' σ H Q := h _ q
theorem ts_notN {a : Expr} {pos pos' : Pos} {j} {m : M D} (h : SE X md P a m) : TsE X md P (.Compare a [.IsNot] [.Constant .none j pos'] pos) (mTest (mNotN m)) := (pt_cmp (pc_notN h)).imp fun _ _ _ q => tB_go (fun _ => notN_go) (test_go q)
def truD : D → Option Bool
  | .non => some false
  | .bl b => some b
  | .int i => some (i != 0)
  | .str l => if l.length ≤ 1000000 then some (!l.isEmpty) else none
  | .lst ds => some (!ds.isEmpty)
  | .tup ds => some (!ds.isEmpty)
  | .dic ks _ => some (!ks.isEmpty)
  | .ob _ => none
def mTru (m : M D) : M Bool := fun ρ O => (m ρ O).bind fun d O1 => match truD (deref O1 d) with
  | some b => .ok b O1
  | none => .no
theorem empty_len {α β : Type} {xs : List α} {ys : List β} (h : xs.length = ys.length) : (!xs.isEmpty) = !ys.isEmpty := by
  cases xs <;> cases ys <;> simp_all
theorem Lk.tru {K : Frag} {H F : Hp} {as : List Addr} {v : V} {d : D} {b : Bool} (h : Lk K H F as v d) (fh : Same F H) (e : truD d = some b) : TruV K v H b := by
  cases d with
  | non => rw [(h.rp rfl).unN]; cases e; rfl
  | bl b => rw [(h.rp rfl).unB]; cases e; rfl
  | int b => rw [(h.rp rfl).unI]; cases e; rfl
  | str l =>
    rw [(h.rp rfl).unS]
    simp only [truD] at e
    split at e
    · rename_i hl
      cases e
      refine ⟨by rw [S_length]; exact size6 hl, ?_⟩
      rw [S_length]
      cases l with
      | nil => rfl
      | cons c l =>
        have : ((((c :: l).length : Nat) : Int) != 0) = true := by
          rw [bne_iff_ne, List.length_cons]
          omega
        rw [this]
        rfl
    · cases e
  | lst ds =>
    obtain ⟨a, xs, rfl, h1, h2⟩ := h.list fh
    cases e
    exact .inl ⟨xs, h1.sq, (empty_len h2.length).symm⟩
  | tup ds =>
    obtain ⟨a, xs, rfl, h1, h2⟩ := (h.rp rfl).unT
    cases e
    exact .inr (.inl ⟨xs, Same.seqT fh h1, (empty_len h2.length).symm⟩)
  | dic ks vs =>
    obtain ⟨a, kvs, rfl, h1, rfl, h2⟩ := (h.rp rfl).unD
    cases e
    exact .inr (.inr ⟨kvs, fh _ _ h1, by cases kvs <;> rfl⟩)
  | ob n => cases e
theorem ts_val {a : Expr} {m : M D} (h : SE X md P a m) (he : ∀ whole, isTrue a X.env whole = (do let v ← whole; standAt a.pos; holding [v] (truthy v)) := by intro _; rfl) : TsE X md P a (mTru m) := (pt_truth h he).imp fun σ H Q q => by
  obtain ⟨ρ, O, F, as, d, O', r, sl, e, k⟩ := q
  obtain ⟨d, O1, e1, e⟩ := Res.bind_ok e
  split at e
  · rename_i c hc
    cases e
    exact ⟨ρ, _, F, as, _, _, r, sl, e1, fun v H1 F1 as1 g1 r1 hv => ⟨_, Lk.tru (Sv.lk hv r1) r1.fh hc, k H1 F1 as1 g1 r1⟩⟩
  · cases e
def mtAnd (a b : M Bool) : M Bool := fun ρ O => (a ρ O).bind fun c O1 => if c = true then b ρ O1 else .ok false O1
def mtOr (a b : M Bool) : M Bool := fun ρ O => (a ρ O).bind fun c O1 => if c = true then .ok true O1 else b ρ O1
def mtNot (a : M Bool) : M Bool := fun ρ O => (a ρ O).bind fun c O1 => .ok (!c) O1
theorem tand_go {K : Frag} {mg : Str → Option Value} {ma mb : M Bool} {σ : St} {H : Hp} {Q : Bool → Hp → Prop} (h : tMT K mg md P (mtAnd ma mb) σ H Q) : tAnd (tMT K mg md P ma) (tMT K mg md P mb) σ H Q := by
  obtain ⟨ρ, O, F, as, d, O', r, sl, e, k⟩ := h
  obtain ⟨c, O1, e1, e⟩ := Res.bind_ok e
  refine ⟨ρ, _, F, as, _, _, r, sl, e1, fun H1 F1 as1 g1 r1 => ?_⟩
  cases c with
  | true =>
    rw [if_pos rfl] at e ⊢
    exact ⟨ρ, _, F1, as1, _, _, r1, sl.step g1, e, fun H2 F2 as2 g2 r2 => k H2 F2 as2 (g1.trans g2) r2⟩
  | false =>
    rw [if_neg Bool.false_ne_true] at e ⊢
    cases e
    exact k H1 F1 as1 g1 r1
theorem tor_go {K : Frag} {mg : Str → Option Value} {ma mb : M Bool} {σ : St} {H : Hp} {Q : Bool → Hp → Prop} (h : tMT K mg md P (mtOr ma mb) σ H Q) : tOr (tMT K mg md P ma) (tMT K mg md P mb) σ H Q := by
  obtain ⟨ρ, O, F, as, d, O', r, sl, e, k⟩ := h
  obtain ⟨c, O1, e1, e⟩ := Res.bind_ok e
  refine ⟨ρ, _, F, as, _, _, r, sl, e1, fun H1 F1 as1 g1 r1 => ?_⟩
  cases c with
  | true =>
    rw [if_pos rfl] at e ⊢
    cases e
    exact k H1 F1 as1 g1 r1
  | false =>
    rw [if_neg Bool.false_ne_true] at e ⊢
    exact ⟨ρ, _, F1, as1, _, _, r1, sl.step g1, e, fun H2 F2 as2 g2 r2 => k H2 F2 as2 (g1.trans g2) r2⟩
theorem tw_and1 {a : Expr} {pos : Pos} {m : M Bool} (h : TsE X md P a m) : TwE X md P (.BoolOp .And [a] pos) m := pw_and1 h
theorem tw_or1 {a : Expr} {pos : Pos} {m : M Bool} (h : TsE X md P a m) : TwE X md P (.BoolOp .Or [a] pos) m := pw_or1 h
theorem tw_and {a b : Expr} {rest : List Expr} {pos : Pos} {ma mb : M Bool} (ha : TsE X md P a ma) (hb : TwE X md P (.BoolOp .And (b :: rest) pos) mb) : TwE X md P (.BoolOp .And (a :: b :: rest) pos) (mtAnd ma mb) := (pw_and ha hb).imp fun _ _ _ => tand_go
theorem tw_or {a b : Expr} {rest : List Expr} {pos : Pos} {ma mb : M Bool} (ha : TsE X md P a ma) (hb : TwE X md P (.BoolOp .Or (b :: rest) pos) mb) : TwE X md P (.BoolOp .Or (a :: b :: rest) pos) (mtOr ma mb) := (pw_or ha hb).imp fun _ _ _ => tor_go
theorem ts_w {e : Expr} {m : M Bool} (h : TwE X md P e m) : TsE X md P e m := PW.pt h
theorem ts_not {a : Expr} {pos : Pos} {m : M Bool} (h : TsE X md P a m) : TsE X md P (.UnaryOp .Not a pos) (mtNot m) := (pt_not h).imp fun σ H Q q => by
  obtain ⟨ρ, O, F, as, d, O', r, sl, e, k⟩ := q
  obtain ⟨c, O1, e1, e⟩ := Res.bind_ok e
  cases e
  exact ⟨ρ, _, F, as, _, _, r, sl, e1, k⟩
def mAndV (ma mb : M D) : M D := fun ρ O => (ma ρ O).bind fun d O1 => match d with
  | .bl true => mb ρ O1
  | .bl false => .ok (.bl false) O1
  | _ => .no
def mOrV (ma mb : M D) : M D := fun ρ O => (ma ρ O).bind fun d O1 => match d with
  | .bl true => .ok (.bl true) O1
  | .bl false => mb ρ O1
  | _ => .no
def mNotV (ma : M D) : M D := fun ρ O => (ma ρ O).bind fun d O1 => match d with
  | .bl b => .ok (.bl (!b)) O1
  | _ => .no
theorem ve_one {a : Expr} {pos : Pos} {op} {m : M D} (h : VE X md P a m) : VE X md P (.BoolOp op [a] pos) m := pe_one h
theorem ve_and {a b : Expr} {rest : List Expr} {pos : Pos} {ma mb : M D} (ha : VE X md P a ma) (hb : VE X md P (.BoolOp .And (b :: rest) pos) mb) : VE X md P (.BoolOp .And (a :: b :: rest) pos) (mAndV ma mb) := (pe_and ha hb).imp fun σ H Q q => by
  obtain ⟨ρ, O, F, as, d, O', r, sl, e, k⟩ := q
  obtain ⟨x, O1, e1, e⟩ := Res.bind_ok e
  refine ⟨ρ, _, F, as, _, _, r, sl, e1, fun v H1 F1 as1 g1 r1 hv => ?_⟩
  cases x with
  | bl c =>
    refine ⟨c, Rp.unB hv, ?_⟩
    cases c with
    | true =>
      rw [if_pos rfl]
      exact ⟨ρ, _, F1, as1, _, _, r1, sl.step g1, e, fun v2 H2 F2 as2 g2 r2 hv2 => k v2 H2 F2 as2 (g1.trans g2) r2 hv2⟩
    | false =>
      rw [if_neg Bool.false_ne_true]
      cases e
      exact k _ H1 F1 as1 g1 r1 Rp.bl
  | _ => cases e
theorem ve_not {a : Expr} {pos : Pos} {m : M D} (h : VE X md P a m) : VE X md P (.UnaryOp .Not a pos) (mNotV m) := (pe_not h).imp fun σ H Q q => by
  obtain ⟨ρ, O, F, as, d, O', r, sl, e, k⟩ := q
  obtain ⟨x, O1, e1, e⟩ := Res.bind_ok e
  refine ⟨ρ, _, F, as, _, _, r, sl, e1, fun v H1 F1 as1 g1 r1 hv => ?_⟩
  cases x with
  | bl c =>
    cases e
    exact ⟨c, Rp.unB hv, k _ H1 F1 as1 g1 r1 Rp.bl⟩
  | _ => cases e
def mIf (t : M Bool) (a b : M D) : M D := fun ρ O => (t ρ O).bind fun c O1 => if c = true then a ρ O1 else b ρ O1
end
end L2
namespace L2
open PySem PySem.Spec PyProof.Rows
section
variable {K : Frag} {mg : Str → Option Value} {md : List Md} {P : Pt} {R : RR} {ρ : DEnv} {σ : St} {H F H' F' : Hp} {as as' : List Addr} {O O' : Store}
theorem SlO.set {i : Nat} {m : Md} {v : V} {d : D} (s : SlO K md P ρ σ H F as) (hm : md[i]? = some m) (hns : m ≠ .s) (hv : SlotR P K H F as m v d)
    (hj : ∀ (a : Addr) (ds : List D) (j : Nat) (es : List D), m = .o → v = .ref a → d = .lst ds → i ≠ j → md[j]? = some .o → ρ[j]? = some (some (.lst es)) → σ[j]? ≠ some (some (.ref a))) : SlO K md P (ρ.set i (some d)) (σ.set i (some v)) H F as := by
  have hi : i < md.length := (List.getElem?_eq_some_iff.mp hm).1
  refine ⟨by rw [List.length_set]; exact s.len, by rw [List.length_set]; exact s.len', s.pd, fun j m' d' e1 e2 => ?_, fun j k a ds es h1 h2 h3 h4 h5 h6 => ?_, fun x hx => ?_⟩
  · by_cases h : i = j
    · subst h
      rw [hm] at e1; cases e1
      rw [List.getElem?_set_self (by rw [s.len']; exact hi)] at e2
      cases e2
      exact ⟨v, List.getElem?_set_self (by rw [s.len]; exact hi), hv⟩
    · rw [List.getElem?_set_ne h] at e2
      rw [List.getElem?_set_ne h]
      exact s.sl j m' d' e1 e2
  · by_cases hij : i = j
    · by_cases hik : i = k
      · rw [← hij, ← hik]
      · exfalso
        subst hij
        rw [hm] at h1; cases h1
        rw [List.getElem?_set_self (by rw [s.len']; exact hi)] at h3
        rw [List.getElem?_set_self (by rw [s.len]; exact hi)] at h5
        rw [List.getElem?_set_ne hik] at h4 h6
        cases h3; cases h5
        exact hj a ds k es rfl rfl rfl hik h2 h4 h6
    · by_cases hik : i = k
      · exfalso
        subst hik
        rw [hm] at h2; cases h2
        rw [List.getElem?_set_self (by rw [s.len']; exact hi)] at h4
        rw [List.getElem?_set_self (by rw [s.len]; exact hi)] at h6
        rw [List.getElem?_set_ne hij] at h3 h5
        cases h4; cases h6
        exact hj a es j ds rfl rfl rfl hij h1 h3 h5
      · rw [List.getElem?_set_ne hij] at h3 h5
        rw [List.getElem?_set_ne hik] at h4 h6
        exact s.inj j k a ds es h1 h2 h3 h4 h5 h6
  · obtain ⟨p1, p2, p3⟩ := s.pin x hx
    have hne : i ≠ x.1 := fun z => by
      rw [← z, hm] at p1
      exact hns (Option.some.inj p1)
    exact ⟨p1, by rw [List.getElem?_set_ne hne]; exact p2, by rw [List.getElem?_set_ne hne]; exact p3⟩
theorem SlO.setV {i : Nat} {v : V} {d : D} (s : SlO K md P ρ σ H F as) (hm : md[i]? = some .v) (hv : Rp K F as v d) : SlO K md P (ρ.set i (some d)) (σ.set i (some v)) H F as :=
  s.set hm (by decide) hv fun _ _ _ _ z => nomatch z
theorem SlO.setN {i : Nat} {v : V} {d : D} (s : SlO K md P ρ σ H F as) (hm : md[i]? = some .o) (hn : notL d = true) (hv : Rp K F as v d) : SlO K md P (ρ.set i (some d)) (σ.set i (some v)) H F as :=
  s.set hm (by decide) (.inl ⟨hn, hv⟩) fun _ _ _ _ _ _ z => by subst z; cases hn
theorem SlO.setO {i : Nat} {v : V} {d : D} {H0 : Hp} (s : SlO K md P ρ σ H0 F as) (g : Gr H0 F as H' F' as') (hm : md[i]? = some .o) (hv : Ow K (fun a => H0 a = none) H' F' as' v d) : SlO K md P (ρ.set i (some d)) (σ.set i (some v)) H' F' as' := by
  have s' := s.step g
  rcases hv with ⟨hn, hv⟩ | ⟨a, xs, ds, rfl, rfl, e3, e4, e5, e6, e7⟩
  · exact s'.setN hm hn hv
  · refine s'.set hm (by decide) (.inr ⟨a, xs, ds, rfl, rfl, e3, e4, e5, fun p => s.pd a p e6, e7⟩) fun b ds' j es _ hb hd hij hj he hs => ?_
    cases hb
    obtain ⟨v, h1, h2⟩ := s.sl j .o _ hj he
    rw [hs] at h1; cases h1
    rcases h2 with ⟨h2, _⟩ | ⟨a', xs', _, z1, _, z3, _⟩
    · cases h2
    · cases z1
      rw [e6] at z3; cases z3
end
section
variable {X : Cx} {md : List Md} {P : Pt} {R : RR}
def msNil : MS := fun ρ O => .nx ρ O
def msSeq (a b : MS) : MS := fun ρ O => match a ρ O with
  | .nx ρ' O' => b ρ' O'
  | r => r
theorem vss_nil : VSs X md P R [] msNil := pss_nil.imp fun D σ H q => by
  obtain ⟨ρ, O, F, as, r, s, k⟩ := q
  exact k σ H F as GrS.refl r s
theorem tMS_gr {K : Frag} {mg : Str → Option Value} {D : Ends} {H F H1 F1 : Hp} {as as1 : List Addr} (g : GrS P H F as H1 F1 as1) {f : Fl} (k : FlOk K mg md P R D H F as f) : FlOk K mg md P R D H1 F1 as1 f := by
  cases f with
  | nx ρ' O' => exact fun σ' H' F' as' g' => k σ' H' F' as' (g.trans g')
  | bk ρ' O' => exact fun σ' H' F' as' g' => k σ' H' F' as' (g.trans g')
  | ct ρ' O' => exact fun σ' H' F' as' g' => k σ' H' F' as' (g.trans g')
  | rt d O' => exact fun σ' H' F' as' g' => k σ' H' F' as' (g.trans g')
  | ex _ _ => exact k
  | no => exact k
theorem vss_cons {st : Stmt} {rest : List Stmt} {a b : MS} (h1 : VS X md P R st a) (h2 : VSs X md P R rest b) : VSs X md P R (st :: rest) (msSeq a b) := (pss_cons h1 h2).imp fun D σ H q => by
  obtain ⟨ρ, O, F, as, r, s, k⟩ := q
  refine ⟨ρ, O, F, as, r, s, ?_⟩
  unfold msSeq at k
  cases e : a ρ O with
  | nx ρ' O' =>
    rw [e] at k
    dsimp only at k
    exact fun σ' H' F' as' g r' s' => ⟨ρ', O', F', as', r', s', tMS_gr g k⟩
  | bk ρ' O' => rw [e] at k; exact k
  | ct ρ' O' => rw [e] at k; exact k
  | rt d O' => rw [e] at k; exact k
  | ex x O' => rw [e] at k; exact k
  | no => rw [e] at k; exact k
theorem vss_one {st : Stmt} {a : MS} (h1 : VS X md P R st a) : VSs X md P R [st] a := pss_one h1
def msNo : MS := fun _ _ => .no
theorem vs_never {st : Stmt} : VS X md P R st msNo := (ps_never (X := X) (st := st)).imp fun D σ H q => by
  obtain ⟨ρ, O, F, as, r, s, k⟩ := q
  exact False.elim k
def msDrop (m : M D) : MS := fun ρ O => match m ρ O with
  | .ok _ O' => .nx ρ O'
  | .ex x O' => .ex x O'
  | .no => .no
theorem vs_expr {e : Expr} {pos : Pos} {m : M D} (h : SE X md P e m) (hs : swapsWith e none pos.line X.env = pure false := by rfl) : VS X md P R (.Expr e pos) (msDrop m) := (ps_expr h hs).imp fun D σ H q => by
  obtain ⟨ρ, O, F, as, r, s, k⟩ := q
  unfold msDrop at k
  cases e : m ρ O with
  | ok d O' =>
    rw [e] at k
    exact ⟨ρ, _, F, as, _, _, r, s, e, fun v H' F' as' g r' _ => k σ H' F' as' g.toS r' (s.step g)⟩
  | ex x O' => rw [e] at k; exact False.elim k
  | no => rw [e] at k; exact False.elim k
def msRet (m : M D) : MS := fun ρ O => match m ρ O with
  | .ok d O' => .rt d O'
  | .ex x O' => .ex x O'
  | .no => .no
theorem vs_ret (hR : RRok R) {e : Expr} {pos : Pos} {m : M D} (h : PE X e (tM X.K X.mg md P R m)) : VS X md P R (.Return (some e) pos) (msRet m) := (ps_ret h).imp fun D σ H q => by
  obtain ⟨ρ, O, F, as, r, s, k⟩ := q
  unfold msRet at k
  cases e : m ρ O with
  | ok d O' =>
    rw [e] at k
    exact ⟨ρ, _, F, as, _, _, r, s, e, fun v H' F' as' g r' hv => k v H' F' as' g.toS r' (hR _ _ _ _ _ _ _ (fun a ha p => s.pd a p ha) hv)⟩
  | ex x O' => rw [e] at k; exact False.elim k
  | no => rw [e] at k; exact False.elim k
theorem vs_retV {e : Expr} {pos : Pos} {m : M D} (h : VE X md P e m) : VS X md P (rV X.K) (.Return (some e) pos) (msRet m) := vs_ret rV_ok h
theorem vs_retO {e : Expr} {pos : Pos} {m : M D} (h : OE X md P e m) : VS X md P (rO X.K) (.Return (some e) pos) (msRet m) := vs_ret rO_ok h
theorem vs_retX (i : Nat) {x : Str} {p pos : Pos} (hm : md[i]? = some .o := by rfl) (hN : X.N[i]? = some x := by rfl) (hv : Vis X.env.scope x := by first | exact Or.inl rfl | exact Or.inr (Or.inl rfl) | exact Or.inr (Or.inr rfl))
    (hd : (x == ("__debug__" : Str)) = false := by decide) (hcd : (x == ("__classdict__" : Str)) = false := by decide) : VS X md P (rO X.K) (.Return (some (.Name x p)) pos) (msRet (mVar i)) := (ps_ret (pe_var (i := i) hN hv hd hcd)).imp fun D σ H q => by
  obtain ⟨ρ, O, F, as, r, s, k⟩ := q
  unfold msRet at k
  cases e : mVar i ρ O with
  | ok d O' =>
    rw [e] at k
    obtain ⟨e1, rfl⟩ := mVar_ok e
    obtain ⟨v, h1, h2⟩ := s.sl i .o d hm e1
    refine ⟨v, h1, k v H F as GrS.refl r ?_⟩
    rcases h2 with h2 | ⟨a, xs, ds, e1, e2, e3, e0, e4, e5, e6⟩
    · exact .inl h2
    · exact .inr ⟨a, xs, ds, e1, e2, e3, e0, e4, e5, e6⟩
  | ex x O' => rw [e] at k; exact False.elim k
  | no => rw [e] at k; exact False.elim k
def msIf (t : M Bool) (a b : MS) : MS := fun ρ O => match t ρ O with
  | .ok c O' => if c = true then a ρ O' else b ρ O'
  | .ex x O' => .ex x O'
  | .no => .no
theorem vs_if {c : Expr} {a b : List Stmt} {pos : Pos} {t : M Bool} {ma mb : MS} (hc : TsE X md P c t) (ha : VSs X md P R a ma) (hb : VSs X md P R b mb) : VS X md P R (.If c a b pos) (msIf t ma mb) := (ps_if hc ha hb).imp fun D σ H q => by
  obtain ⟨ρ, O, F, as, r, s, k⟩ := q
  unfold msIf at k
  cases e : t ρ O with
  | ok c O' =>
    rw [e] at k
    refine ⟨ρ, _, F, as, _, _, r, s, e, fun H1 F1 as1 g r1 => ?_⟩
    dsimp only at k
    cases c with
    | true =>
      rw [if_pos rfl] at k ⊢
      exact ⟨ρ, O', F1, as1, r1, s.step g, tMS_gr g.toS k⟩
    | false =>
      rw [if_neg Bool.false_ne_true] at k ⊢
      exact ⟨ρ, O', F1, as1, r1, s.step g, tMS_gr g.toS k⟩
  | ex x O' => rw [e] at k; exact False.elim k
  | no => rw [e] at k; exact False.elim k
def msSet (i : Nat) (m : M D) : MS := fun ρ O => match m ρ O with
  | .ok d O' => .nx (ρ.set i (some d)) O'
  | .ex x O' => .ex x O'
  | .no => .no
theorem setV_go {K : Frag} {mg : Str → Option Value} {i : Nat} {m : M D} {t : TE} (hm : md[i]? = some .v) (ht : ∀ σ H Q, tM K mg md P (rV K) m σ H Q → t σ H Q) {D : Ends} {σ : St} {H : Hp} (q : tMS K mg md P R (msSet i m) D σ H) : tAsg t (gName i) D σ H := by
  obtain ⟨ρ, O, F, as, r, s, k⟩ := q
  unfold msSet at k
  cases e : m ρ O with
  | ok d O' =>
    rw [e] at k
    exact ht _ _ _ ⟨ρ, _, F, as, _, _, r, s, e, fun v H' F' as' g r' hv => k _ H' F' as' g.toS r' ((s.step g).setV hm hv)⟩
  | ex x O' => rw [e] at k; exact False.elim k
  | no => rw [e] at k; exact False.elim k
theorem setO_go {K : Frag} {mg : Str → Option Value} {i : Nat} {m : M D} {t : TE} (hm : md[i]? = some .o) (ht : ∀ σ H Q, tM K mg md P (rO K) m σ H Q → t σ H Q) {D : Ends} {σ : St} {H : Hp} (q : tMS K mg md P R (msSet i m) D σ H) : tAsg t (gName i) D σ H := by
  obtain ⟨ρ, O, F, as, r, s, k⟩ := q
  unfold msSet at k
  cases e : m ρ O with
  | ok d O' =>
    rw [e] at k
    exact ht _ _ _ ⟨ρ, _, F, as, _, _, r, s, e, fun v H' F' as' g r' hv => k _ H' F' as' g.toS r' (s.setO g hm hv)⟩
  | ex x O' => rw [e] at k; exact False.elim k
  | no => rw [e] at k; exact False.elim k
theorem vs_setV {i : Nat} {x : Str} {e : Expr} {pos pos' : Pos} {m : M D} (hN : X.N.Nodup) (hi : X.N[i]? = some x) (hx : Loc X.env.scope x) (h : VE X md P e m) (hm : md[i]? = some .v := by rfl) (hs : swapsWith e (some (.Name x pos')) pos.line X.env = pure false := by rfl)
    (hf : X.fn x = true ∨ X.env.scope.names.lookup x = some .local := by first | exact .inl rfl | exact .inr rfl | assumption) : VS X md P R (.Assign [.Name x pos'] e pos) (msSet i m) := (ps_set (i := i) hN hi hx h hs hf).imp fun D σ H q => setV_go hm (fun _ _ _ z => z) q
theorem vs_setO {i : Nat} {x : Str} {e : Expr} {pos pos' : Pos} {m : M D} (hN : X.N.Nodup) (hi : X.N[i]? = some x) (hx : Loc X.env.scope x) (h : OE X md P e m) (hm : md[i]? = some .o := by rfl) (hs : swapsWith e (some (.Name x pos')) pos.line X.env = pure false := by rfl)
    (hf : X.fn x = true ∨ X.env.scope.names.lookup x = some .local := by first | exact .inl rfl | exact .inr rfl | assumption) : VS X md P R (.Assign [.Name x pos'] e pos) (msSet i m) := (ps_set (i := i) hN hi hx h hs hf).imp fun D σ H q => setO_go hm (fun _ _ _ z => z) q
abbrev MG := D → DEnv → Option DEnv
def tMG (K : Frag) (mg : Str → Option Value) (md : List Md) (P : Pt) (g : MG) : TG := fun v σ H Q => ∃ ρ O F as d ρ', RlO K mg O H F as ∧ SlO K md P ρ σ H F as ∧ Rp K F as v d ∧ g d ρ = some ρ' ∧ ∀ σ', SlO K md P ρ' σ' H F as → Q σ' H
def tMGs (K : Frag) (mg : Str → Option Value) (md : List Md) (P : Pt) (g : List D → DEnv → Option DEnv) : TGs := fun vs σ H Q => ∃ ρ O F as ds ρ', RlO K mg O H F as ∧ SlO K md P ρ σ H F as ∧ Rps K F as vs ds ∧ g ds ρ = some ρ' ∧ ∀ σ', SlO K md P ρ' σ' H F as → Q σ' H
def VG (X : Cx) (md : List Md) (P : Pt) (tg : Expr) (g : MG) : Prop := PG X tg (tMG X.K X.mg md P g)
def VGs (X : Cx) (md : List Md) (P : Pt) (tg : List Expr) (g : List D → DEnv → Option DEnv) : Prop := PGs X tg (tMGs X.K X.mg md P g)
theorem PG.imp {e : Expr} {t t' : TG} (h : PG X e t) (k : ∀ v σ H Q, t' v σ H Q → t v σ H Q) : PG X e t' := fun pins s σ H v u Q I r q => h pins s σ H v u Q I r (k v σ H Q q)
theorem PGs.imp {e : List Expr} {t t' : TGs} (h : PGs X e t) (k : ∀ v σ H Q, t' v σ H Q → t v σ H Q) : PGs X e t' := fun pins s σ H v u Q I r q => h pins s σ H v u Q I r (k v σ H Q q)
def mgN (i : Nat) : MG := fun d ρ => some (ρ.set i (some d))
theorem vg_name {i : Nat} {x : Str} {pos : Pos} (hN : X.N.Nodup) (hi : X.N[i]? = some x) (hx : Loc X.env.scope x) (hm : md[i]? = some .v := by rfl) (hf : X.fn x = true ∨ X.env.scope.names.lookup x = some .local := by first | exact .inl rfl | exact .inr rfl | assumption) : VG X md P (.Name x pos) (mgN i) :=
  (pg_name (i := i) hN hi hx hf).imp fun v σ H Q q => by
    obtain ⟨ρ, O, F, as, d, ρ', r, s, hv, e, k⟩ := q
    cases e
    exact k _ (s.setV hm hv)
def mgsNil : List D → DEnv → Option DEnv := fun ds ρ => match ds with
  | [] => some ρ
  | _ => none
def mgsCons (g : MG) (r : List D → DEnv → Option DEnv) : List D → DEnv → Option DEnv := fun ds ρ => match ds with
  | d :: ds => (g d ρ).bind fun ρ1 => r ds ρ1
  | [] => none
theorem vgs_nil : VGs X md P [] mgsNil := pgs_nil.imp fun v σ H Q q => by
  obtain ⟨ρ, O, F, as, ds, ρ', r, s, hv, e, k⟩ := q
  cases ds with
  | nil => cases e; exact ⟨hv.un0, k _ s⟩
  | cons _ _ => cases e
theorem vgs_cons {e : Expr} {es : List Expr} {g : MG} {r : List D → DEnv → Option DEnv} (h1 : VG X md P e g) (h2 : VGs X md P es r) (hs : (assignEach (e :: es) X.env).map (·.2) = assign e X.env :: (assignEach es X.env).map (·.2) := by rfl) : VGs X md P (e :: es) (mgsCons g r) :=
  (pgs_cons h1 h2 hs).imp fun v σ H Q q => by
    obtain ⟨ρ, O, F, as, ds, ρ', r0, s, hv, e, k⟩ := q
    cases ds with
    | nil => cases e
    | cons d ds =>
      obtain ⟨x, rs, rfl, hx, hr⟩ := hv.un
      unfold mgsCons at e
      dsimp only at e
      cases e1 : g d ρ with
      | none => rw [e1] at e; cases e
      | some ρ1 =>
        rw [e1] at e
        exact ⟨x, rs, rfl, ρ, O, F, as, d, ρ1, r0, s, hx, e1, fun σ' s' => ⟨ρ1, O, F, as, ds, ρ', r0, s', hr, e, k⟩⟩
def mgN' (n : Nat) (r : List D → DEnv → Option DEnv) : MG := fun d ρ => match d with
  | .tup ds => if ds.length = n then r ds ρ else none
  | _ => none
theorem vg_tup {es : List Expr} {pos : Pos} {k : Nat} {r : List D → DEnv → Option DEnv} (n : Nat) (hc : X.calm = true) (h : VGs X md P es r) (hn : (assignEach es X.env).length = n := by rfl) (hst : (assignEach es X.env).findIdx? (·.1) = none := by rfl) : VG X md P (.Tuple es k pos) (mgN' n r) :=
  (pg_tup hc h hn hst).imp fun v σ H Q q => by
    obtain ⟨ρ, O, F, as, d, ρ', r0, s, hv, e, k⟩ := q
    cases d with
    | tup ds =>
      obtain ⟨a, xs, rfl, h1, h2⟩ := hv.unT
      unfold mgN' at e
      dsimp only at e
      split at e
      · rename_i hl
        exact ⟨a, xs, rfl, Same.seqT r0.fh h1, by rw [h2.length]; exact hl, ρ, O, F, as, ds, ρ', r0, s, h2, e, k⟩
      · cases e
    | _ => cases e
def msAsg (m : M D) (g : MG) : MS := fun ρ O => match m ρ O with
  | .ok d O' => match g d ρ with
    | some ρ' => .nx ρ' O'
    | none => .no
  | .ex x O' => .ex x O'
  | .no => .no
theorem vs_asg {tg e : Expr} {pos : Pos} {m : M D} {g : MG} (h : VE X md P e m) (hg : VG X md P tg g) (hs : swapsWithSole [tg] e pos.line X.env = pure false := by rfl) (hw : swappedStores [tg] e X.env = pure none := by rfl)
    (h1 : (assignEach [tg] X.env).map (·.2) = [assign tg X.env] := by rfl) : VS X md P R (.Assign [tg] e pos) (msAsg m g) := (ps_asg h hg hs hw h1).imp fun D σ H q => by
  obtain ⟨ρ, O, F, as, r, s, k⟩ := q
  unfold msAsg at k
  cases e : m ρ O with
  | ok d O' =>
    rw [e] at k
    dsimp only at k
    cases e2 : g d ρ with
    | none => rw [e2] at k; exact False.elim k
    | some ρ' =>
      rw [e2] at k
      refine ⟨ρ, _, F, as, _, _, r, s, e, fun v H1 F1 as1 g1 r1 hv => ?_⟩
      exact ⟨ρ, O', F1, as1, d, ρ', r1, s.step g1, hv, e2, fun σ' s' => k σ' H1 F1 as1 g1.toS r1 s'⟩
  | ex x O' => rw [e] at k; exact False.elim k
  | no => rw [e] at k; exact False.elim k
end
end L2
namespace L2
open PySem PySem.Spec PyProof.Rows
structure JOk (K : Frag) (mg : Str → Option Value) (P : Pt) (J : It) (ds : List D) (H F : Hp) (as : List Addr) : Prop where
  turn : ∀ (i : Nat) (d : D) (H2 F2 : Hp) (as2 : List Addr), GrS P H F as H2 F2 as2 → (∃ O, RlO K mg O H2 F2 as2) → ds[i]? = some d → J.go i H2 ∧ ∀ x H3, J.yld i H2 x H3 → ∃ F3, Gr H2 F2 as2 H3 F3 as2 ∧ (∀ O, RlO K mg O H2 F2 as2 → RlO K mg O H3 F3 as2) ∧ Rp K F3 as2 x d
  stop : ∀ (H2 F2 : Hp) (as2 : List Addr), GrS P H F as H2 F2 as2 → (∃ O, RlO K mg O H2 F2 as2) → J.stop ds.length H2
structure JOkE (K : Frag) (mg : Str → Option Value) (J : It) (ds : List D) (H F : Hp) (as : List Addr) : Prop where
  turn : ∀ (i : Nat) (d : D) (H2 F2 : Hp) (as2 : List Addr), Gr H F as H2 F2 as2 → (∃ O, RlO K mg O H2 F2 as2) → ds[i]? = some d → J.go i H2 ∧ ∀ x H3, J.yld i H2 x H3 → ∃ F3, Gr H2 F2 as2 H3 F3 as2 ∧ (∀ O, RlO K mg O H2 F2 as2 → RlO K mg O H3 F3 as2) ∧ Rp K F3 as2 x d
  stop : ∀ (H2 F2 : Hp) (as2 : List Addr), Gr H F as H2 F2 as2 → (∃ O, RlO K mg O H2 F2 as2) → J.stop ds.length H2
theorem JOk.e {K : Frag} {mg : Str → Option Value} {P : Pt} {J : It} {ds : List D} {H F : Hp} {as : List Addr} (h : JOk K mg P J ds H F as) : JOkE K mg J ds H F as := ⟨fun i d H2 F2 as2 g => h.turn i d H2 F2 as2 g.toS, fun H2 F2 as2 g => h.stop H2 F2 as2 g.toS⟩
def tMIc (K : Frag) (mg : Str → Option Value) (md : List Md) (P : Pt) (m : M (List D)) : TI := fun σ H Q => ∃ ρ O F as ds O', RlO K mg O H F as ∧ SlO K md P ρ σ H F as ∧ m ρ O = .ok ds O' ∧
  ∀ J H' F' as', Gr H F as H' F' as' → RlO K mg O' H' F' as' → JOkE K mg J ds H' F' as' → Q J H'
def VIc (X : Cx) (md : List Md) (P : Pt) (tg iter : Expr) (m : M (List D)) : Prop := PI X tg iter (tMIc X.K X.mg md P m)
def tMI (K : Frag) (mg : Str → Option Value) (md : List Md) (P : Pt) (m : M (List D)) : TI := fun σ H Q => ∃ ρ O F as ds O', RlO K mg O H F as ∧ SlO K md P ρ σ H F as ∧ m ρ O = .ok ds O' ∧
  ∀ J H' F' as', Gr H F as H' F' as' → RlO K mg O' H' F' as' → JOk K mg P J ds H' F' as' → Q J H'
def VI (X : Cx) (md : List Md) (P : Pt) (tg iter : Expr) (m : M (List D)) : Prop := PI X tg iter (tMI X.K X.mg md P m)
section
variable {X : Cx} {md : List Md} {P : Pt} {R : RR}
theorem PI.imp {tg e : Expr} {t t' : TI} (h : PI X tg e t) (k : ∀ σ H Q, t' σ H Q → t σ H Q) : PI X tg e t' := fun pins s σ H Q I q => h pins s σ H Q I (k σ H Q q)
theorem vic_vi {tg e : Expr} {m : M (List D)} (h : VI X md P tg e m) : VIc X md P tg e m := h.imp fun σ H Q q => by
  obtain ⟨ρ, O, F, as, ds, O', r, s, e, k⟩ := q
  exact ⟨ρ, O, F, as, ds, O', r, s, e, fun J H' F' as' g r' hJ => k J H' F' as' g r' hJ.e⟩
def floop (g : MG) (b : MS) : List D → MS
  | [], ρ, O => .nx ρ O
  | d :: ds, ρ, O => match g d ρ with
    | none => .no
    | some ρ1 => match b ρ1 O with
      | .nx ρ2 O2 => floop g b ds ρ2 O2
      | .ct ρ2 O2 => floop g b ds ρ2 O2
      | .bk ρ2 O2 => .nx ρ2 O2
      | r => r
def msFor (m : M (List D)) (g : MG) (b : MS) : MS := fun ρ O => match m ρ O with
  | .ok ds O' => floop g b ds ρ O'
  | .ex x O' => .ex x O'
  | .no => .no
theorem for_go {K : Frag} {mg : Str → Option Value} {m : M (List D)} {g : MG} {b : MS} {D : Ends} {σ : St} {H : Hp} (q : tMS K mg md P R (msFor m g b) D σ H) : tFor (tMI K mg md P m) (tMG K mg md P g) (tMS K mg md P R b) D σ H := by
  obtain ⟨ρ, O, F, as, r, s, k⟩ := q
  unfold msFor at k
  cases e : m ρ O with
  | ex x O' => rw [e] at k; exact False.elim k
  | no => rw [e] at k; exact False.elim k
  | ok ds O1 =>
    rw [e] at k
    dsimp only at k
    refine ⟨ρ, _, F, as, _, _, r, s, e, fun J H1 F1 as1 g1 r1 hJ => ?_⟩
    have k1 := tMS_gr (R := R) g1.toS k
    refine ⟨fun i m σ' H' => m = ds.length - i ∧ i ≤ ds.length ∧ ∃ ρ' O' F' as', GrS P H1 F1 as1 H' F' as' ∧ RlO K mg O' H' F' as' ∧ SlO K md P ρ' σ' H' F' as' ∧ FlOk K mg md P R D H' F' as' (floop g b (ds.drop i) ρ' O'), ⟨ds.length, by simp, Nat.zero_le _, ρ, O1, F1, as1, GrS.refl, r1, s.step g1, by rw [List.drop_zero]; exact k1⟩, ?_⟩
    rintro i n σ' H' ⟨rfl, hi, ρ', O', F', as', g', r', s', k'⟩
    by_cases hlt : i < ds.length
    · have hd := List.getElem?_eq_getElem hlt
      obtain ⟨go, yl⟩ := hJ.turn i _ H' F' as' g' ⟨O', r'⟩ hd
      rw [List.drop_eq_getElem_cons hlt] at k'
      refine .inr ⟨go, fun σ2 H2 => ∃ ρ2 O2 F2 as2, GrS P H1 F1 as1 H2 F2 as2 ∧ RlO K mg O2 H2 F2 as2 ∧ SlO K md P ρ2 σ2 H2 F2 as2 ∧ FlOk K mg md P R D H2 F2 as2 (floop g b (ds.drop (i + 1)) ρ2 O2), fun σ2 H2 h2 => ⟨ds.length - (i + 1), by omega, rfl, hlt, h2⟩, fun x H3 y => ?_⟩
      obtain ⟨F3, g3, r3, hx⟩ := yl x H3 y
      have r3' := r3 O' r'
      unfold floop at k'
      cases eg : g ds[i] ρ' with
      | none => rw [eg] at k'; exact False.elim k'
      | some ρ1 =>
        rw [eg] at k'
        dsimp only at k'
        refine ⟨ρ', O', F3, as', ds[i], ρ1, r3', s'.step g3, hx, eg, fun σ4 s4 => ?_⟩
        refine ⟨ρ1, O', F3, as', r3', s4, ?_⟩
        have g4 : GrS P H1 F1 as1 H3 F3 as' := g'.trans g3.toS
        have keep := fun {f} => tMS_gr (K := K) (mg := mg) (md := md) (R := R) (D := D) (f := f) (g3.toS (P := P))
        cases eb : b ρ1 O' with
        | nx ρ2 O2 =>
          rw [eb] at k'
          exact fun σ2 H2 F2 as2 g2 r2 s2 => ⟨ρ2, O2, F2, as2, g4.trans g2, r2, s2, tMS_gr g2 (keep k')⟩
        | ct ρ2 O2 =>
          rw [eb] at k'
          exact fun σ2 H2 F2 as2 g2 r2 s2 => ⟨ρ2, O2, F2, as2, g4.trans g2, r2, s2, tMS_gr g2 (keep k')⟩
        | bk ρ2 O2 =>
          rw [eb] at k'
          exact fun σ2 H2 F2 as2 g2 r2 s2 => k' σ2 H2 F2 as2 (g3.toS.trans g2) r2 s2
        | rt d O2 =>
          rw [eb] at k'
          exact fun v H2 F2 as2 g2 r2 s2 => k' v H2 F2 as2 (g3.toS.trans g2) r2 s2
        | ex _ _ => rw [eb] at k'; exact False.elim k'
        | no => rw [eb] at k'; exact False.elim k'
    · have hi' : i = ds.length := by omega
      subst hi'
      refine .inl ⟨hJ.stop H' F' as' g' ⟨O', r'⟩, ?_⟩
      rw [List.drop_length] at k'
      exact k' σ' H' F' as' GrS.refl r' s'
theorem vs_for {tg iter : Expr} {body : List Stmt} {pos : Pos} {m : M (List D)} {g : MG} {b : MS} (hc : X.calm = true) (hi : VI X md P tg iter m) (hg : VG X md P tg g) (hb : VSs X md P R body b) (hp : PassesOwn (model X.prog X.w) X.A X.env X.xe := by exact PassesOwn.never)
    (hs : ∀ x, foldedSetIterable iter X.env x = pure x := by intro _; rfl) : VS X md P R (.For tg iter body [] pos) (msFor m g b) := (ps_for hp hc hi hg hb hs).imp fun _ _ _ q => for_go q
def wloop (t : M Bool) (b : MS) : Nat → MS
  | 0, _, _ => .no
  | n + 1, ρ, O => match t ρ O with
    | .ok true O1 => match b ρ O1 with
      | .nx ρ2 O2 => wloop t b n ρ2 O2
      | .ct ρ2 O2 => wloop t b n ρ2 O2
      | .bk ρ2 O2 => .nx ρ2 O2
      | r => r
    | .ok false O1 => .nx ρ O1
    | .ex x O' => .ex x O'
    | .no => .no
def msWhile (n : Nat) (t : M Bool) (b : MS) : MS := wloop t b n
theorem while_go {K : Frag} {mg : Str → Option Value} {n : Nat} {t : M Bool} {b : MS} {D : Ends} {σ : St} {H : Hp} (q : tMS K mg md P R (msWhile n t b) D σ H) : tWhile (tMT K mg md P t) (tMS K mg md P R b) D σ H := by
  refine ⟨fun n σ' H' => tMS K mg md P R (wloop t b n) D σ' H', ⟨n, q⟩, ?_⟩
  rintro m σ1 H1 ⟨ρ, O, F, as, r, s, k⟩
  cases m with
  | zero => exact False.elim k
  | succ m =>
    unfold wloop at k
    cases e : t ρ O with
    | ex x O' => rw [e] at k; exact False.elim k
    | no => rw [e] at k; exact False.elim k
    | ok c O1 =>
      rw [e] at k
      refine ⟨ρ, _, F, as, _, _, r, s, e, fun H2 F2 as2 g2 r2 => ?_⟩
      cases c with
      | false =>
        rw [if_neg Bool.false_ne_true]
        exact k σ1 H2 F2 as2 g2.toS r2 (s.step g2)
      | true =>
        rw [if_pos rfl]
        refine ⟨fun σ' H' => tMS K mg md P R (wloop t b m) D σ' H', fun σ' H' h' => ⟨m, Nat.lt_succ_self m, h'⟩, ρ, O1, F2, as2, r2, s.step g2, ?_⟩
        dsimp only at k
        have keep := fun {f} => tMS_gr (K := K) (mg := mg) (md := md) (R := R) (D := D) (f := f) (g2.toS (P := P))
        cases eb : b ρ O1 with
        | nx ρ2 O2 =>
          rw [eb] at k
          exact fun σ3 H3 F3 as3 g3 r3 s3 => ⟨ρ2, O2, F3, as3, r3, s3, tMS_gr g3 (keep k)⟩
        | ct ρ2 O2 =>
          rw [eb] at k
          exact fun σ3 H3 F3 as3 g3 r3 s3 => ⟨ρ2, O2, F3, as3, r3, s3, tMS_gr g3 (keep k)⟩
        | bk ρ2 O2 =>
          rw [eb] at k
          exact fun σ3 H3 F3 as3 g3 r3 s3 => k σ3 H3 F3 as3 (g2.toS.trans g3) r3 s3
        | rt d O2 =>
          rw [eb] at k
          exact fun σ3 H3 F3 as3 g3 r3 s3 => k σ3 H3 F3 as3 (g2.toS.trans g3) r3 s3
        | ex _ _ => rw [eb] at k; exact False.elim k
        | no => rw [eb] at k; exact False.elim k
theorem vs_while (n : Nat) {c : Expr} {body : List Stmt} {pos : Pos} {t : M Bool} {b : MS} (hc : TsE X md P c t) (hb : VSs X md P R body b) (hp : PassesOwn (model X.prog X.w) X.A X.env X.xe := by exact PassesOwn.never) : VS X md P R (.While c body [] pos) (msWhile n t b) :=
  (ps_while hp hc hb).imp fun _ _ _ q => while_go q
def cloop (g : MG) (t : M Bool) (m : M D) : List D → DEnv → Store → List D → Res (List D)
  | [], ρ, O, acc => .ok acc O
  | d :: ds, ρ, O, acc => match g d ρ with
    | none => .no
    | some ρ1 => match t ρ1 O with
      | .ok true O1 => match m ρ1 O1 with
        | .ok y O2 => cloop g t m ds ρ1 O2 (acc ++ [y])
        | .ex x O' => .ex x O'
        | .no => .no
      | .ok false O1 => cloop g t m ds ρ1 O1 acc
      | .ex x O' => .ex x O'
      | .no => .no
def cEnv (own : Nat) (cap : List Nat) (ρ : DEnv) : DEnv := List.replicate own none ++ cap.map fun j => (ρ[j]?).join
def mComp (m : M (List D)) (own : Nat) (cap : List Nat) (g : MG) (t : M Bool) (e : M D) : M D := fun ρ O => (m ρ O).bind fun ds O1 => if ds.length ≤ 1000000 then (cloop g t e ds (cEnv own cap ρ) O1 []).bind fun ys O2 => .ok (.lst ys) O2 else .no
def mYes : M Bool := fun _ O => .ok true O
def cMd (own : Nat) (cap : List Nat) (md : List Md) : List Md := List.replicate own .v ++ cap.map fun j => match md[j]? with
  | some .v => .v
  | _ => .s
theorem comp_slots {K : Frag} {ρ : DEnv} {σ : St} {H F : Hp} {as : List Addr} {own : List Str} {cap : List Nat} (s : SlO K md P ρ σ H F as) (hcap : ∀ j ∈ cap, j < md.length) : SlO K (cMd own.length cap md) (Pt.all H) (cEnv own.length cap ρ) (compSt own cap σ) H F as := by
  refine ⟨by simp [compSt, cMd], by simp [cEnv, cMd], fun a h => h, fun i m d e1 e2 => ?_, fun i j a ds es h1 => ?_, fun _ z => nomatch z⟩
  · unfold cEnv at e2
    unfold cMd at e1
    unfold compSt
    by_cases hi : i < own.length
    · rw [List.getElem?_append_left (by simpa using hi), List.getElem?_replicate_of_lt hi] at e2
      cases e2
    · have hi' : own.length ≤ i := Nat.le_of_not_lt hi
      rw [List.getElem?_append_right (by simpa using hi'), List.length_replicate, List.getElem?_map] at e2 e1
      rw [List.getElem?_append_right (by simpa using hi'), List.length_map, List.getElem?_map]
      cases q : cap[i - own.length]? with
      | none => rw [q] at e2; cases e2
      | some j =>
        rw [q] at e1 e2
        simp only [Option.map_some, Option.some.injEq] at e1 e2 ⊢
        cases q2 : ρ[j]? with
        | none => rw [q2] at e2; cases e2
        | some o =>
          rw [q2] at e2
          have e2' : o = some d := e2
          subst e2'
          obtain ⟨m0, v, h1, h2, h3⟩ := s.get q2
          rw [h1] at e1
          refine ⟨v, by rw [h2]; rfl, ?_⟩
          cases m0 with
          | v => dsimp only at e1; subst e1; exact h3
          | s =>
            dsimp only at e1; subst e1
            rcases h3 with h3 | ⟨a, xs, ds, e1, e2, e3, e4, e5, e6⟩
            · exact .inl h3
            · exact .inr ⟨a, xs, ds, e1, e2, e3, e4, (show H a ≠ none by rw [e3]; exact fun z => nomatch z), e6⟩
          | o =>
            dsimp only at e1; subst e1
            rcases h3 with ⟨_, h3⟩ | ⟨a, xs, ds, e1, e2, e3, e0, e4, e5, e6⟩
            · exact .inl h3
            · exact .inr ⟨a, xs, ds, e1, e2, e3, e4, (show H a ≠ none by rw [e3]; exact fun z => nomatch z), e6⟩
  · exfalso
    unfold cMd at h1
    by_cases hi : i < own.length
    · rw [List.getElem?_append_left (by simpa using hi), List.getElem?_replicate_of_lt hi] at h1
      cases h1
    · have hi' : own.length ≤ i := Nat.le_of_not_lt hi
      rw [List.getElem?_append_right (by simpa using hi'), List.length_replicate, List.getElem?_map] at h1
      cases q : cap[i - own.length]? with
      | none => rw [q] at h1; cases h1
      | some j =>
        rw [q] at h1
        simp only [Option.map_some, Option.some.injEq] at h1
        split at h1 <;> cases h1
end
end L2
namespace L2
open PySem PySem.Spec PyProof.Rows
section
variable {X : Cx} {md : List Md} {P : Pt} {R : RR}
def xM (K : Frag) (mg : Str → Option Value) (md : List Md) (R : RR) (m : M D) : TE := fun σ H Q => ∃ P, tM K mg md P R m σ H Q
def xMT (K : Frag) (mg : Str → Option Value) (md : List Md) (m : M Bool) : TT := fun σ H Q => ∃ P, tMT K mg md P m σ H Q
def xMG (K : Frag) (mg : Str → Option Value) (md : List Md) (g : MG) : TG := fun v σ H Q => ∃ P, tMG K mg md P g v σ H Q
theorem xm {e : Expr} {m : M D} (h : ∀ P, PE X e (tM X.K X.mg md P R m)) : PE X e (xM X.K X.mg md R m) := fun pins s σ H Q I ⟨P, q⟩ => h P pins s σ H Q I q
theorem xmg {e : Expr} {g : MG} (h : ∀ P, VG X md P e g) : PG X e (xMG X.K X.mg md g) := fun pins s σ H v u Q I r ⟨P, q⟩ => h P pins s σ H v u Q I r q
theorem xmt {e : List Expr} {m : M Bool} (h : ∀ P, PIfs X e (tMT X.K X.mg md P m)) : PIfs X e (xMT X.K X.mg md m) := fun pins s σ H Q I ⟨P, q⟩ => h P pins s σ H Q I q
def VIf (X : Cx) (md : List Md) (P : Pt) (e : List Expr) (m : M Bool) : Prop := PIfs X e (tMT X.K X.mg md P m)
theorem vif_nil : VIf X md P [] mYes := fun pins s σ H Q I q => by
  obtain ⟨ρ, O, F, as, d, O', r, s, e, k⟩ := q
  cases e
  exact pifs_nil pins _ σ H Q I (k H F as Gr.refl r)
theorem comp_go {K : Frag} {mg : Str → Option Value} {m : M (List D)} {own : List Str} {cap : List Nat} {g : MG} {t : M Bool} {e : M D} (hcap : ∀ j ∈ cap, j < md.length) {σ : St} {H : Hp} {Q : VK} (q : tM K mg md P (rO K) (mComp m own.length cap g t e) σ H Q) :
    tComp (tMIc K mg md P m) own cap (xMG K mg (cMd own.length cap md) g) (xMT K mg (cMd own.length cap md) t) (xM K mg (cMd own.length cap md) (rV K) e) σ H Q := by
  obtain ⟨ρ, O, F, as, d, OZ, r, s, eq, k⟩ := q
  obtain ⟨ds, O1, e1, eq⟩ := Res.bind_ok eq
  split at eq
  · rename_i hz
    obtain ⟨yf, O2, e2, eq⟩ := Res.bind_ok eq
    cases eq
    refine ⟨ρ, _, F, as, _, _, r, s, e1, fun J H1 F1 as1 g1 r1 hJ => ?_⟩
    have sb := comp_slots (own := own) (s.step g1) hcap
    refine ⟨fun i n ys σ' H' => n = ds.length - i ∧ i ≤ ds.length ∧ ∃ ρ' O' F' as' acc, Gr H1 F1 as1 H' F' as' ∧ RlO K mg O' H' F' as' ∧ SlO K (cMd own.length cap md) (Pt.all H1) ρ' σ' H' F' as' ∧ Rps K F' as' ys acc ∧ acc.length ≤ i ∧
      cloop g t e (ds.drop i) ρ' O' acc = .ok yf OZ, ⟨ds.length, by simp, Nat.zero_le _, cEnv own.length cap ρ, O1, F1, as1, [], Gr.refl, r1, sb, Rps.nil, Nat.le_refl _, by rw [List.drop_zero]; exact e2⟩, ?_⟩
    rintro i n ys σ' H' ⟨rfl, hi, ρ', O', F', as', acc, g', r', s', hy, hl, ec⟩
    by_cases hlt : i < ds.length
    · obtain ⟨go, yl⟩ := hJ.turn i _ H' F' as' g' ⟨O', r'⟩ (List.getElem?_eq_getElem hlt)
      refine .inr ⟨go, ?_, fun ys σ2 H2 => ∃ ρ2 O3 F2 as2 acc2, Gr H1 F1 as1 H2 F2 as2 ∧ RlO K mg O3 H2 F2 as2 ∧ SlO K (cMd own.length cap md) (Pt.all H1) ρ2 σ2 H2 F2 as2 ∧ Rps K F2 as2 ys acc2 ∧ acc2.length ≤ i + 1 ∧
        cloop g t e (ds.drop (i + 1)) ρ2 O3 acc2 = .ok yf OZ, fun ys2 σ2 H2 h2 => ⟨ds.length - (i + 1), by omega, rfl, hlt, h2⟩, fun x H3 y => ?_⟩
      · rw [hy.length]
        have := size6 hz
        omega
      obtain ⟨F3, g3, r3, hx⟩ := yl x H3 y
      have r3' := r3 O' r'
      have g13 := g'.trans g3
      rw [List.drop_eq_getElem_cons hlt] at ec
      unfold cloop at ec
      cases eg : g ds[i] ρ' with
      | none => rw [eg] at ec; cases ec
      | some ρ1 =>
        rw [eg] at ec
        dsimp only at ec
        refine ⟨_, ρ', O', F3, as', ds[i], ρ1, r3', s'.step g3, hx, eg, fun σ4 s4 => ?_⟩
        cases et : t ρ1 O' with
        | ex _ _ => rw [et] at ec; cases ec
        | no => rw [et] at ec; cases ec
        | ok c O4 =>
          rw [et] at ec
          refine ⟨_, ρ1, O', F3, as', c, O4, r3', s4, et, fun H5 F5 as5 g5 r5 => ?_⟩
          cases c with
          | false =>
            rw [if_neg Bool.false_ne_true]
            exact ⟨ρ1, O4, F5, as5, acc, g13.trans g5, r5, s4.step g5, (hy.gr g3).gr g5, by omega, ec⟩
          | true =>
            rw [if_pos rfl]
            dsimp only at ec
            cases em : e ρ1 O4 with
            | ex _ _ => rw [em] at ec; cases ec
            | no => rw [em] at ec; cases ec
            | ok yd O6 =>
              rw [em] at ec
              refine ⟨_, ρ1, O4, F5, as5, yd, O6, r5, s4.step g5, em, fun vy H7 F7 as7 g7 r7 hvy => ?_⟩
              exact ⟨ρ1, O6, F7, as7, acc ++ [yd], (g13.trans g5).trans g7, r7, (s4.step g5).step g7, (((hy.gr g3).gr g5).gr g7).snoc hvy, by rw [List.length_append]; show acc.length + 1 ≤ i + 1; omega, ec⟩
    · have hi' : i = ds.length := by omega
      subst hi'
      rw [List.drop_length] at ec
      cases ec
      refine .inl ⟨hJ.stop H' F' as' g' ⟨_, r'⟩, ?_, fun p hp => ?_⟩
      · rw [hy.length]
        exact Nat.le_trans hl (size6 hz)
      · have hF : F' p = none := by
          cases q : F' p with
          | none => rfl
          | some o => rw [r'.fh p o q] at hp; cases hp
        exact k _ _ F' as' ((g1.trans g').trans (Gr.lay hp)) (r'.lay hp) (.inr ⟨p, ys, yf, rfl, rfl, upd_same, hF, fun z => r'.all z hp, (g1.trans g').dm p hp, hy⟩)
  · cases eq
variable {tg iter elt : Expr} {ifs : List Expr} {scope : Scope} {pos : Pos} {mi : M (List D)} {g : MG} {t : M Bool} {e : M D}
theorem oe_comp (sc0 : Scope) (N0 own : List Str) (cap : List Nat) (hc : X.calm = true) (hi : VIc X md P tg iter mi)
    (hg : ∀ C s H ex P, VG (cxComp X scope C (compN N0 own cap) s H ex) (cMd own.length cap md) P tg g) (ht : ∀ C s H ex P, VIf (cxComp X scope C (compN N0 own cap) s H ex) (cMd own.length cap md) P ifs t)
    (he : ∀ C s H ex P, VE (cxComp X scope C (compN N0 own cap) s H ex) (cMd own.length cap md) P elt e)
    (hcap : ∀ j ∈ cap, j < md.length := by decide) (hsc : X.env.scope = sc0 := by rfl) (hN0 : X.N = N0 := by rfl) (ok : compOk sc0 N0 scope own cap = true := by decide +kernel) (hs : ∀ x, foldedSetIterable iter X.env x = pure x := by intro _; rfl) :
    OE X md P (.ListComp elt [⟨tg, iter, ifs, 0⟩] scope pos) (mComp mi own.length cap g t e) :=
  (pe_comp sc0 N0 own cap hc hi (fun C s H ex => xmg (hg C s H ex)) (fun C s H ex => xmt (ht C s H ex)) (fun C s H ex => xm (he C s H ex)) hsc hN0 ok hs).imp fun _ _ _ q => comp_go hcap q
end
def vSp (K : Frag) (mg : Str → Option Value) (pm : List Md) (R : RR) (c : List D → Store → Res D) : Sp := fun vs H Q _ =>
  ∃ ds O F as d O', RlO K mg O H F as ∧ ArgsR K H F as pm vs ds ∧ c ds O = .ok d O' ∧ ∀ v H' F' as', Gr H F as H' F' as' → RlO K mg O' H' F' as' → R (fun a => H a = none) H' F' as' v d → Q v H'
def mFun (n : Nat) (b : MS) : List D → Store → Res D := fun ds O => match b (ds.map some ++ List.replicate (n - ds.length) none) O with
  | .rt d O' => .ok d O'
  | .nx _ O' => .ok .non O'
  | .ex x O' => .ex x O'
  | _ => .no
theorem ArgsR.len {K : Frag} {H F : Hp} {as : List Addr} : ∀ {ms : List Md} {vs : List V} {ds : List D}, ArgsR K H F as ms vs ds → vs.length = ms.length ∧ ds.length = ms.length
  | [], [], [], _ => ⟨rfl, rfl⟩
  | m :: ms, v :: vs, d :: ds, h => by
    have := ArgsR.len h.2
    simp [this.1, this.2]
  | [], [], _ :: _, h => h.elim
  | [], _ :: _, [], h => h.elim
  | [], _ :: _, _ :: _, h => h.elim
  | _ :: _, [], [], h => h.elim
  | _ :: _, [], _ :: _, h => h.elim
  | _ :: _, _ :: _, [], h => h.elim
theorem ArgsR.get {K : Frag} {H F : Hp} {as : List Addr} : ∀ {ms : List Md} {vs : List V} {ds : List D} {i : Nat} {m : Md} {d : D}, ArgsR K H F as ms vs ds → ms[i]? = some m → ds[i]? = some d → ∃ v, vs[i]? = some v ∧ rA K m (fun _ => True) H F as v d
  | m :: ms, v :: vs, d :: ds, 0, m', d', h, e1, e2 => by
    simp at e1 e2
    subst e1 e2
    exact ⟨v, rfl, h.1⟩
  | m :: ms, v :: vs, d :: ds, i + 1, m', d', h, e1, e2 => by
    obtain ⟨v', h1, h2⟩ := ArgsR.get (i := i) (m := m') (d := d') h.2 (by simpa using e1) (by simpa using e2)
    exact ⟨v', by simpa using h1, h2⟩
  | [], [], [], _, _, _, _, e1, _ => by simp at e1
  | [], [], _ :: _, _, _, _, h, _, _ => h.elim
  | [], _ :: _, [], _, _, _, h, _, _ => h.elim
  | [], _ :: _, _ :: _, _, _, _, h, _, _ => h.elim
  | _ :: _, [], [], _, _, _, h, _, _ => h.elim
  | _ :: _, [], _ :: _, _, _, _, h, _, _ => h.elim
  | _ :: _, _ :: _, [], _, _, _, h, _, _ => h.elim
theorem start_slots {K : Frag} {H F : Hp} {as : List Addr} {N : List Str} {pm lm : List Md} {vs : List V} {ds : List D} (h : ArgsR K H F as pm vs ds) (hl : (pm ++ lm).length = N.length) (hp : ∀ m ∈ pm, m ≠ .o) :
    SlO K (pm ++ lm) (Pt.all H) (ds.map some ++ List.replicate (N.length - ds.length) none) (start N vs) H F as := by
  obtain ⟨h1, h2⟩ := h.len
  rw [List.length_append] at hl
  have vsl : vs.length ≤ N.length := by omega
  have no : ∀ i a, (ds.map some ++ List.replicate (N.length - ds.length) none)[i]? = some (some a) → i < ds.length := fun i a e => by
    by_cases hi : i < ds.length
    · exact hi
    · rw [List.getElem?_append_right (by simpa using hi), List.getElem?_replicate] at e
      split at e <;> cases e
  refine ⟨by unfold start; simp; omega, by simp; omega, fun a z => z, fun i m d e1 e2 => ?_, fun i j a es fs e1 e2 e3 => ?_, fun _ z => nomatch z⟩
  · have hi := no i d e2
    rw [List.getElem?_append_left (by simpa using hi), List.getElem?_map] at e2
    rw [List.getElem?_append_left (by omega)] at e1
    cases q : ds[i]? with
    | none => rw [q] at e2; cases e2
    | some d' =>
      rw [q] at e2
      cases e2
      obtain ⟨v, h3, h4⟩ := h.get e1 q
      refine ⟨v, ?_, ?_⟩
      · unfold start
        rw [List.getElem?_append_left (by simp; omega), List.getElem?_map, h3]
        rfl
      · cases m with
        | v => exact h4
        | s =>
          rcases h4 with h4 | ⟨a, xs, es, z1, z2, z3, z4, z5⟩
          · exact .inl h4
          · exact .inr ⟨a, xs, es, z1, z2, z3, z4, (show H a ≠ none by rw [z3]; exact fun z => nomatch z), z5⟩
        | o => exact absurd rfl (hp .o (List.mem_of_getElem? e1))
  · have hi := no i _ e3
    rw [List.getElem?_append_left (by omega)] at e1
    exact absurd rfl (hp .o (List.mem_of_getElem? e1))
section
variable {Pr : Program} {w : World} {K : Frag} {mg : Str → Option Value} {base : Heap}
theorem vdef {x : Str} {st : Stmt} {N ps : List Str} {k : Nat} (Df : Def K mg x st) (S : FnScope N ps (defScope st))
    (hb : ∀ (kV doc pm : Value) (an : Option Addr) (cdv ct : Value) (us : List Value), us.length = ps.length → bindArgs (PySem.W.fnOf x x (defArgs st) (defBody st) (defScope st) .none kV doc pm an cdv ct) ⟨us, []⟩ = pure (ps.zip us))
    (pm lm : List Md) {R : RR} {b : MS} (hR : RRok R) (hR0 : ∀ N H F as, R N H F as .non .non) (hpl : pm.length = ps.length := by rfl) (hl : (pm ++ lm).length = N.length := by rfl) (hp : ∀ m ∈ pm, m ≠ .o := by decide)
    (body : ∀ (f : Addr) (cdv : Value) (A : Around) (outer : List Env) (s : Shared) (H : Hp) (E : XK), Room k (A.deeper (envOfC x (defScope st) s.heap.objs.size f cdv)) → ∀ P, VSs ((cxOf CX0 Pr w K mg base N x (defScope st) f cdv A outer s H E).nox) (pm ++ lm) P R (defBody st) b) :
    Can Pr w K mg base x ps (k + 1) (vSp K mg pm R (mFun N.length b)) := by
  refine Df.can (k := k) S hb (fun vs H Q E h => ?_) (fun f cdv A outer s H vs Q E hr h => ?_)
  · obtain ⟨ds, O, F, as, d, O', r, a, _⟩ := h
    rw [a.len.1, hpl]
  · obtain ⟨ds, O, F, as, d, O', r, a, e, q⟩ := h
    refine ⟨_, body f cdv A outer s H E hr (Pt.all H), ?_⟩
    refine ⟨_, O, F, as, r, start_slots a hl hp, ?_⟩
    unfold mFun at e
    cases eb : b (ds.map some ++ List.replicate (N.length - ds.length) none) O with
    | rt d' O2 =>
      rw [eb] at e
      cases e
      exact fun v H' F' as' g r' hv => q v H' F' as' g.gr r' (hR _ _ _ _ _ _ _ (fun c hc => Classical.not_not.mp hc) hv)
    | nx ρ O2 =>
      rw [eb] at e
      cases e
      exact fun σ' H' F' as' g r' _ => q _ H' F' as' g.gr r' (hR0 _ _ _ _)
    | bk _ _ => rw [eb] at e; cases e
    | ct _ _ => rw [eb] at e; cases e
    | ex _ _ => rw [eb] at e; cases e
    | no => rw [eb] at e; cases e
end
section
variable {X : Cx} {md : List Md} {P : Pt} {R : RR} {k : Nat} {x : Str} {ps : List Str} {p pos : Pos} {e : Expr} {es : List Expr} {pm : List Md} {c : List D → Store → Res D} {ma : M (List D)}
def mCall (c : List D → Store → Res D) (ma : M (List D)) : M D := fun ρ O => (ma ρ O).bind fun ds O1 => c ds O1
theorem call_go {K : Frag} {mg : Str → Option Value} (hR : RRok R) {E : XK} {σ : St} {H : Hp} {Q : VK} (q : tM K mg md P R (mCall c ma) σ H Q) : tCall (vSp K mg pm R c) [] E (tMA K mg md P pm ma) σ H Q := by
  obtain ⟨ρ, O, F, as, d, O', r, s, e, k⟩ := q
  obtain ⟨ds, O1, e1, e⟩ := Res.bind_ok e
  refine ⟨ρ, _, F, as, _, _, r, s, e1, fun vs H1 F1 as1 g1 r1 hv => ?_⟩
  dsimp only
  rw [List.append_nil]
  exact ⟨ds, O1, F1, as1, d, O', r1, hv, e, fun v H' F' as' g' r' hw => k v H' F' as' (g1.trans g') r' (hR _ _ _ _ _ _ _ (fun a ha => g1.dm a ha) hw)⟩
theorem xe_call (hR : RRok R) (C : Can X.prog X.w X.K X.mg X.base x ps k (vSp X.K X.mg pm R c)) (hr : Room k X.A) (ha : AE X md P pm (e :: es) ma) (hg : Gl X x := by rfl) (hdb : (x == ("__debug__" : Str)) = false := by decide)
    (he : starEach (e :: es) X.env = (false, eval e X.env) :: starEach es X.env := by exact starC rfl) (hpl : (backTo pos (starEach es X.env)).any (·.1) = false := by exact starAny rfl) : PE X (.Call (.Name x p) (e :: es) [] pos) (tM X.K X.mg md P R (mCall c ma)) :=
  (pe_can C hr ha hg hdb he hpl).imp fun _ _ _ q => call_go hR q
end
end L2
namespace L2
open PySem PySem.Spec PyProof.Rows
section
variable {K : Frag} {mg : Str → Option Value} {H F : Hp} {as : List Addr} {O : Store} {Q : VK} {d : D} {p : Addr} {xs : List V} {ds : List D}
theorem k_val {v : V} (r : RlO K mg O H F as) (k : ∀ v' H' F', Gr H F as H' F' as → RlO K mg O H' F' as → Ow K (fun a => H a = none) H' F' as v' d → Q v' H') (hn : notL d = true) (hv : Rp K F as v d) : Q v H := k v H F Gr.refl r (.inl ⟨hn, hv⟩)
theorem RlO.frF (r : RlO K mg O H F as) (hp : H p = none) : F p = none := by
  cases q : F p with
  | none => rfl
  | some o => rw [r.fh p o q] at hp; cases hp
theorem k_lst (r : RlO K mg O H F as) (k : ∀ v' H' F', Gr H F as H' F' as → RlO K mg O H' F' as → Ow K (fun a => H a = none) H' F' as v' (.lst ds) → Q v' H') (hp : H p = none) (hs : Rps K F as xs ds) : Q (.ref p) (upd H p (.lst xs)) :=
  k _ _ F (Gr.lay hp) (r.lay hp) (.inr ⟨p, xs, ds, rfl, rfl, upd_same, r.frF hp, fun z => r.all z hp, hp, hs⟩)
theorem k_tup (r : RlO K mg O H F as) (k : ∀ v' H' F', Gr H F as H' F' as → RlO K mg O H' F' as → Ow K (fun a => H a = none) H' F' as v' (.tup ds) → Q v' H') (hp : H p = none) (hs : Rps K F as xs ds) : Q (.ref p) (upd H p (.tup xs)) := by
  have hF := r.frF hp
  have ff : Same F (upd F p (.tup xs)) := fun b u q => by rw [upd_ne (ne_of_none q hF)]; exact q
  exact k _ _ (upd F p (.tup xs)) ((Gr.lay hp).frz hp hF) ((r.lay hp).frz upd_same hF (fun z => r.all z hp) rfl) (.inl ⟨rfl, Rp.mkT (.inl upd_same) (Rps.mono ff (fun _ _ z => z) _ hs)⟩)
end
section
variable {X : Cx}
def rCatR (K : Frag) : R2 := fun x y H Q => ∃ l b xs zs, x = .ref l ∧ y = .ref b ∧ RdK K H l xs ∧ RdK K H b zs ∧ xs.length + zs.length ≤ sizeLine ∧ ∀ p, H p = none → Q (.ref p) (upd H p (.lst (xs ++ zs)))
theorem op_catR : OpR X (binaryOp .Add) (rCatR X.K) := by
  intro pins s σ H x y v u Q I rx ry h
  obtain ⟨l, b, xs, zs, rfl, rfl, hH, hB, hz, q⟩ := h
  cases rx
  cases ry
  obtain ⟨z, its, n, r, e⟩ := hH.ok I
  obtain ⟨z2, its2, n2, r2, e2⟩ := hB.ok I
  have hl := r.length
  have hl2 := r2.length
  refine PySem.P.add_list e e2 ?_ (by rw [List.size_toArray, List.size_toArray]; omega)
  have ea : its.toArray ++ its2.toArray = (its ++ its2).toArray := by simp
  rw [ea]
  exact ⟨.ref _, _, I.lnew (t' := s.toks) (r.append r2) (by rw [List.length_append]; omega), rfl, q _ I.fresh⟩
def rRepR (K : Frag) : R2 := fun x y H Q => ∃ l k xs, x = .ref l ∧ y = .int k ∧ RdK K H l xs ∧ -(2 ^ 63) ≤ k ∧ k < 2 ^ 63 ∧ xs.length * k.toNat ≤ sizeLine ∧
  ∀ p, H p = none → Q (.ref p) (upd H p (.lst (List.replicate k.toNat xs).flatten))
theorem op_repR : OpR X (binaryOp .Mult) (rRepR X.K) := by
  intro pins s σ H x y v u Q I rx ry h
  obtain ⟨l, k, xs, rfl, rfl, hH, h1, h2, hz, q⟩ := h
  cases rx
  obtain ⟨t, rfl⟩ := ry
  obtain ⟨z, its, n, r, e⟩ := hH.ok I
  have hl := r.length
  have hlen : its.toArray.size * k.toNat ≤ sizeLine := by rw [List.size_toArray, ← hl]; exact hz
  have hcap : ¬ its.toArray.size * k.toNat > (2 ^ 63 - 1) / 8 := by
    have : (sizeLine : Nat) ≤ (2 ^ 63 - 1) / 8 := by decide
    omega
  have hfit : ¬ (!Builtin.List.listFitsIndex k) = true := by
    rw [fitsIndex_both h1 h2]
    exact Bool.false_ne_true
  have hlong : ¬ Builtin.List.listTooLong (its.toArray.size * k.toNat) = true := by
    rw [notLongL hlen]
    exact Bool.false_ne_true
  have hnew : List.foldl (fun x1 x2 => x1 ++ x2) #[] (List.replicate (if its.toArray.isEmpty = true then 0 else k.toNat) its.toArray) = (List.replicate k.toNat its).flatten.toArray := by
    have f0 : ∀ m : Nat, List.foldl (fun x1 x2 => x1 ++ x2) #[] (List.replicate m its.toArray) = (List.replicate m its).flatten.toArray := fun m => by
      have := foldl_rep its m []
      rw [List.nil_append] at this
      exact this
    rw [f0]
    cases its with
    | nil => simp
    | cons a r' => rw [if_neg (by simp)]
  refine wpAny_binaryOp_repeat_ref (T := "list") (U := "int") (by decide) ⟨_, e, rfl⟩ (fun s' => typeIs_int s' k t) noFill_list_mul F.fills_int_mul F.slot_int_rmul repeat_list F.slot_int_index.lookup
    (call_meets F.slot_int_rmul (typeIs_int s k t) F.entry_int_rmul (F.args_int_rmul_2 _ _) (int___rmul___int_list k t l its.toArray n)
      ⟨e, rfl, ⟨_, e, rfl⟩, call_meets F.slot_list_mul ⟨_, e, rfl⟩ F.entry_list_mul (F.args_list_mul_2 _ _) (AutoListH.list___mul___list_int_3 l its.toArray n k t hfit hcap hlong) ⟨e, ?_⟩⟩)
  rw [hnew]
  exact ⟨.ref _, _, I.lnew (t' := s.toks) (r.rep k.toNat) (by rw [len_rep, Nat.mul_comm]; exact hz), rfl, q _ I.fresh⟩
def gAdd : D → D → Option D
  | .int i, .int j => some (.int (i + j))
  | .int i, .bl k => some (.int (i + b2i k))
  | .str a, .str b => if a.length + b.length ≤ 1000000 then some (.str (a ++ b)) else none
  | .lst a, .lst b => if a.length + b.length ≤ 1000000 then some (.lst (a ++ b)) else none
  | .tup a, .tup b => if a.length + b.length ≤ 1000000 ∧ a ≠ [] then some (.tup (a ++ b)) else none
  | _, _ => none
instance (a : List D) : Decidable (a ≠ []) := match a with
  | [] => isFalse fun h => h rfl
  | _ :: _ => isTrue fun h => nomatch h
theorem od_add : OpD X (binaryOp .Add) gAdd := by
  intro pins s σ H x y v u Q I rx ry h
  obtain ⟨O, F, as, dx, dy, d, r, hx, hy, e, k⟩ := h
  cases dx with
  | int i =>
    cases (hx.rp rfl).unI
    cases dy with
    | int j =>
      cases (hy.rp rfl).unI
      cases e
      exact op_add pins s σ H _ _ v u Q I rx ry ⟨i, j, rfl, rfl, k_val r k rfl Rp.int⟩
    | bl j =>
      cases (hy.rp rfl).unB
      cases e
      exact op_add_ib pins s σ H _ _ v u Q I rx ry ⟨i, j, rfl, rfl, k_val r k rfl Rp.int⟩
    | _ => cases e
  | str a =>
    cases (hx.rp rfl).unS
    cases dy with
    | str b =>
      cases (hy.rp rfl).unS
      simp only [gAdd] at e
      split at e
      · rename_i hz
        cases e
        refine op_add_str pins s σ H _ _ v u Q I rx ry ⟨S a, S b, rfl, rfl, by rw [S_length, S_length]; exact size6 hz, ?_⟩
        rw [S_append]
        exact k_val r k rfl Rp.str
      · cases e
    | _ => cases e
  | lst a =>
    obtain ⟨p, xs, rfl, h1, h2⟩ := hx.list r.fh
    cases dy with
    | lst b =>
      obtain ⟨p', ys, rfl, h3, h4⟩ := hy.list r.fh
      simp only [gAdd] at e
      split at e
      · rename_i hz
        cases e
        exact op_catR pins s σ H _ _ v u Q I rx ry ⟨p, p', xs, ys, rfl, rfl, h1, h3, by rw [h2.length, h4.length]; exact size6 hz, fun q hq => k_lst r k hq (Rps.append h4 h2)⟩
      · cases e
    | _ => cases e
  | tup a =>
    obtain ⟨p, xs, rfl, h1, h2⟩ := (hx.rp rfl).unT
    cases dy with
    | tup b =>
      obtain ⟨p', ys, rfl, h3, h4⟩ := (hy.rp rfl).unT
      simp only [gAdd] at e
      split at e
      · rename_i hz
        cases e
        have hxs : xs ≠ [] := fun z => hz.2 (List.eq_nil_of_length_eq_zero (by rw [← h2.length, z]; rfl))
        refine op_catT pins s σ H _ _ v u Q I rx ry ⟨p, p', xs, ys, rfl, rfl, Same.seqT r.fh h1, Same.seqT r.fh h3, hxs, by rw [h2.length, h4.length]; exact size6 hz.1, fun z => ?_, fun _ q hq => k_tup r k hq (Rps.append h4 h2)⟩
        have hb : b = [] := List.eq_nil_of_length_eq_zero (by rw [← h4.length, z]; rfl)
        subst hb
        rw [List.append_nil] at k
        exact k_val r k rfl (hx.rp rfl)
      · cases e
    | _ => cases e
  | _ => cases e
def gI (C : Int → Int → Bool) (f : Int → Int → Int) : D → D → Option D
  | .int i, .int j => if C i j = true then some (.int (f i j)) else none
  | _, _ => none
theorem od_I {f : Value → Value → Sem Value} {Cp : Int → Int → Prop} {g : Int → Int → Int} {C : Int → Int → Bool} (h : OpR X f (rI Cp fun i j => .int (g i j))) (hc : ∀ i j, C i j = true → Cp i j) : OpD X f (gI C g) := by
  intro pins s σ H x y v u Q I rx ry h'
  obtain ⟨O, F, as, dx, dy, d, r, hx, hy, e, k⟩ := h'
  cases dx with
  | int i =>
    cases (hx.rp rfl).unI
    cases dy with
    | int j =>
      cases (hy.rp rfl).unI
      simp only [gI] at e
      split at e
      · rename_i hC
        cases e
        exact h pins s σ H _ _ v u Q I rx ry ⟨i, j, rfl, rfl, hc i j hC, k_val r k rfl Rp.int⟩
      · cases e
    | _ => cases e
  | _ => cases e
def gMinus : D → D → Option D := gI (fun _ _ => true) fun i j => i - j
theorem od_sub : OpD X (binaryOp .Sub) gMinus := by
  intro pins s σ H x y v u Q I rx ry h'
  obtain ⟨O, F, as, dx, dy, d, r, hx, hy, e, k⟩ := h'
  cases dx with
  | int i =>
    cases (hx.rp rfl).unI
    cases dy with
    | int j =>
      cases (hy.rp rfl).unI
      cases e
      exact op_sub pins s σ H _ _ v u Q I rx ry ⟨i, j, rfl, rfl, k_val r k rfl Rp.int⟩
    | _ => cases e
  | _ => cases e
def small64 (i : Int) : Bool := decide (-(2 ^ 64) < i) && decide (i < 2 ^ 64)
theorem small64_iff {i : Int} (h : small64 i = true) : -(2 ^ 64) < i ∧ i < 2 ^ 64 := by
  unfold small64 at h
  rw [Bool.and_eq_true, decide_eq_true_eq, decide_eq_true_eq] at h
  exact h
def gMul : D → D → Option D
  | .int i, .int j => if (small64 i || small64 j) = true then some (.int (i * j)) else none
  | .str l, .int n => if -1000000 < n ∧ n < 1000000 ∧ l.length * n.toNat ≤ 16777216 then some (.str (List.replicate n.toNat l).flatten) else none
  | .lst l, .int n => if -1000000 < n ∧ n < 1000000 ∧ l.length * n.toNat ≤ 1000000 then some (.lst (List.replicate n.toNat l).flatten) else none
  | _, _ => none
theorem od_mul : OpD X (binaryOp .Mult) gMul := by
  intro pins s σ H x y v u Q I rx ry h
  obtain ⟨O, F, as, dx, dy, d, r, hx, hy, e, k⟩ := h
  cases dx with
  | int i =>
    cases (hx.rp rfl).unI
    cases dy with
    | int j =>
      cases (hy.rp rfl).unI
      simp only [gMul] at e
      split at e
      · rename_i hz
        cases e
        refine op_mul pins s σ H _ _ v u Q I rx ry ⟨i, j, rfl, rfl, ?_, k_val r k rfl Rp.int⟩
        rw [Bool.or_eq_true] at hz
        rcases hz with z | z
        · exact .inl (small64_iff z)
        · exact .inr (small64_iff z)
      · cases e
    | _ => cases e
  | str l =>
    cases (hx.rp rfl).unS
    cases dy with
    | int n =>
      cases (hy.rp rfl).unI
      simp only [gMul] at e
      split at e
      · rename_i hz
        cases e
        exact op_mul_str pins s σ H _ _ v u Q I rx ry ⟨l, n, rfl, rfl, hz.1, hz.2.1, hz.2.2, k_val r k rfl Rp.str⟩
      · cases e
    | _ => cases e
  | lst l =>
    obtain ⟨p, xs, rfl, h1, h2⟩ := hx.list r.fh
    cases dy with
    | int n =>
      cases (hy.rp rfl).unI
      simp only [gMul] at e
      split at e
      · rename_i hz
        cases e
        exact op_repR pins s σ H _ _ v u Q I rx ry ⟨p, n, xs, rfl, rfl, h1, by omega, by omega, by rw [h2.length]; exact size6 hz.2.2, fun q hq => k_lst r k hq (h2.rep _)⟩
      · cases e
    | _ => cases e
  | _ => cases e
def gMod : D → D → Option D := gI (fun _ j => decide (0 < j)) fun i j => i % j
theorem od_mod : OpD X (binaryOp .Mod) gMod := od_I op_mod fun _ _ h => of_decide_eq_true h
def gFdiv : D → D → Option D := gI (fun _ j => decide (0 < j) && decide (j < 1073741824)) fun i j => i / j
theorem od_fdiv : OpD X (binaryOp .FloorDiv) gFdiv := od_I op_fdiv fun i j h => by
  rw [Bool.and_eq_true, decide_eq_true_eq, decide_eq_true_eq] at h
  exact h
def gPow : D → D → Option D := gI (fun i j => decide (0 ≤ j) && (decide (j ≤ 1000000) && small64 i)) fun i j => i ^ j.toNat
theorem od_pow : OpD X (binaryOp .Pow) gPow := od_I op_pow fun i j h => by
  rw [Bool.and_eq_true, Bool.and_eq_true, decide_eq_true_eq, decide_eq_true_eq] at h
  have := small64_iff h.2.2
  exact ⟨h.1, h.2.1, by omega⟩
def mUn (g : D → Option D) (m : M D) : M D := fun ρ O => (m ρ O).bind fun d O1 => match g (deref O1 d) with
  | some y => .ok y O1
  | none => .no
def gNeg : D → Option D
  | .int i => some (.int (-i))
  | _ => none
theorem oe_neg {md : List Md} {P : Pt} {a : Expr} {pos : Pos} {m : M D} (h : SE X md P a m) : OE X md P (.UnaryOp .USub a pos) (mUn gNeg m) := (pe_un un_neg h).imp fun σ H Q q => by
  obtain ⟨ρ, O, F, as, d, O', r, s, e, k⟩ := q
  obtain ⟨x, O1, e1, e⟩ := Res.bind_ok e
  refine ⟨ρ, _, F, as, _, _, r, s, e1, fun v H1 F1 as1 g1 r1 hv => ?_⟩
  cases ed : deref O1 x with
  | int i =>
    rw [ed] at e
    cases e
    have := Sv.lk hv r1
    rw [ed] at this
    exact ⟨i, (this.rp rfl).unI, k _ H1 F1 as1 g1 r1 (.inl ⟨rfl, Rp.int⟩)⟩
  | _ => rw [ed] at e; cases e
def gCI (f : Int → Int → Bool) : D → D → Option D
  | .int i, .int j => some (.bl (f i j))
  | _, _ => none
theorem od_CI {f : Value → Value → Sem Value} {g : Int → Int → Bool} (h : OpR X f (rI0 fun i j => .bl (g i j))) : OpD X f (gCI g) := by
  intro pins s σ H x y v u Q I rx ry h'
  obtain ⟨O, F, as, dx, dy, d, r, hx, hy, e, k⟩ := h'
  cases dx with
  | int i =>
    cases (hx.rp rfl).unI
    cases dy with
    | int j =>
      cases (hy.rp rfl).unI
      cases e
      exact h pins s σ H _ _ v u Q I rx ry ⟨i, j, rfl, rfl, k_val r k rfl Rp.bl⟩
    | _ => cases e
  | _ => cases e
def gLt : D → D → Option D := gCI fun i j => decide (i < j)
def gGt : D → D → Option D := gCI fun i j => decide (j < i)
def gGe : D → D → Option D := gCI fun i j => decide (j ≤ i)
def gLe : D → D → Option D
  | .int i, .int j => some (.bl (decide (i ≤ j)))
  | .str a, .str b => some (.bl (!decide (b < a)))
  | _, _ => none
theorem od_le : OpD X (compareOp .LtE) gLe := by
  intro pins s σ H x y v u Q I rx ry h'
  obtain ⟨O, F, as, dx, dy, d, r, hx, hy, e, k⟩ := h'
  cases dx with
  | int i =>
    cases (hx.rp rfl).unI
    cases dy with
    | int j =>
      cases (hy.rp rfl).unI
      cases e
      exact op_le pins s σ H _ _ v u Q I rx ry ⟨i, j, rfl, rfl, k_val r k rfl Rp.bl⟩
    | _ => cases e
  | str a =>
    cases (hx.rp rfl).unS
    cases dy with
    | str b =>
      cases (hy.rp rfl).unS
      cases e
      refine op_le_str pins s σ H _ _ v u Q I rx ry ⟨S a, S b, rfl, rfl, ?_⟩
      rw [S_cps, S_cps]
      exact k_val r k rfl Rp.bl
    | _ => cases e
  | _ => cases e
theorem od_lt : OpD X (compareOp .Lt) gLt := od_CI op_lt
theorem od_gt : OpD X (compareOp .Gt) gGt := od_CI op_gt
mutual
def toP : D → PyData
  | .non => .none
  | .bl b => .bool b
  | .int i => .int i
  | .str l => .str (S l)
  | .lst ds => .list (toPs ds)
  | .tup ds => .tuple (toPs ds)
  | .dic _ _ => .none
  | .ob _ => .none
def toPs : List D → List PyData
  | [] => []
  | d :: ds => toP d :: toPs ds
end
mutual
def plainD : D → Bool
  | .lst ds => plainDs ds
  | .tup ds => plainDs ds
  | .dic _ _ => false
  | .ob _ => false
  | _ => true
def plainDs : List D → Bool
  | [] => true
  | d :: ds => plainD d && plainDs ds
end
section
variable {K : Frag} {F : Hp} {as : List Addr}
mutual
theorem Rp.rep : ∀ (d : D) {v : V}, plainD d = true → Rp K F as v d → Rep K F v (toP d)
  | .non, v, _, h => by rw [toP, Rep]; exact h.unN
  | .bl b, v, _, h => by rw [toP, Rep]; exact h.unB
  | .int i, v, _, h => by rw [toP, Rep]; exact h.unI
  | .str x, v, _, h => by rw [toP, Rep]; exact h.unS
  | .lst ds, v, hp, h => by
    obtain ⟨a, xs, h1, h2, h3⟩ := h.unL
    rw [toP, Rep]
    rw [plainD] at hp
    exact ⟨a, xs, h1, h2.sq, Rps.rep' ds hp h3⟩
  | .tup ds, v, hp, h => by
    obtain ⟨a, xs, h1, h2, h3⟩ := h.unT
    rw [toP, Rep]
    rw [plainD] at hp
    exact ⟨a, xs, h1, h2, Rps.rep' ds hp h3⟩
  | .dic _ _, v, hp, h => by rw [plainD] at hp; cases hp
  | .ob _, v, hp, h => by rw [plainD] at hp; cases hp
theorem Rps.rep' : ∀ (ds : List D) {xs : List V}, plainDs ds = true → Rps K F as xs ds → Reps K F xs (toPs ds)
  | [], xs, _, h => by rw [h.un0, toPs]; exact Reps.nil
  | d :: ds, xs, hp, h => by
    obtain ⟨x, r, rfl, h2, h3⟩ := h.un
    rw [plainDs, Bool.and_eq_true] at hp
    rw [toPs]
    exact Reps.cons (Rp.rep d hp.1 h2) (Rps.rep' ds hp.2 h3)
end
theorem Lk.rep {H : Hp} {d : D} {v : V} (h : Lk K H F as v d) (fh : Same F H) (hp : plainD d = true) : Rep K H v (toP d) := by
  rcases h with h | ⟨a, xs, ds, rfl, rfl, h1, h2⟩
  · exact Rep.mono fh _ (Rp.rep d hp h)
  · rw [plainD] at hp
    rw [toP, Rep]
    exact ⟨a, xs, rfl, .inl (.inl h1), Reps.mono fh _ (Rps.rep' ds hp h2)⟩
end
def okE (d : D) : Bool := plainD d && okD (toP d)
def eqDD (a b : D) : Bool := PyData.eqv (toP a) (toP b)
def gEq : D → D → Option D
  | .int i, .int j => some (.bl (decide (i = j)))
  | .str a, .str b => some (.bl (decide (a = b)))
  | .bl a, .bl b => some (.bl (decide (a = b)))
  | a, b => if (okE a && okE b) = true then some (.bl (eqDD a b)) else none
def gNe : D → D → Option D
  | .int i, .int j => some (.bl (!decide (i = j)))
  | .str a, .str b => some (.bl (!decide (a = b)))
  | .bl a, .bl b => some (.bl (!decide (a = b)))
  | a, b => if (okE a && okE b) = true then some (.bl (!eqDD a b)) else none
theorem dec_S (a b : List Nat) : decide (V.str (S a) = V.str (S b)) = decide (a = b) := by
  by_cases h : a = b
  · subst h; simp
  · rw [decide_eq_false h, decide_eq_false]
    intro z
    exact h (S_inj (V.str.inj z))
theorem dec_I (a b : Int) : decide (V.int a = V.int b) = decide (a = b) := by
  by_cases h : a = b
  · subst h; simp
  · rw [decide_eq_false h, decide_eq_false]
    intro z
    exact h (V.int.inj z)
theorem dec_B (a b : Bool) : decide (V.bl a = V.bl b) = decide (a = b) := by
  cases a <;> cases b <;> rfl
theorem gEq_gen {a b d : D} (h : gEq a b = some d) : (∃ i j, a = .int i ∧ b = .int j ∧ d = .bl (decide (i = j))) ∨ (∃ i j, a = .str i ∧ b = .str j ∧ d = .bl (decide (i = j))) ∨ (∃ i j, a = .bl i ∧ b = .bl j ∧ d = .bl (decide (i = j))) ∨
    (okE a = true ∧ okE b = true ∧ d = .bl (eqDD a b)) := by
  unfold gEq at h
  split at h
  · cases h; exact .inl ⟨_, _, rfl, rfl, rfl⟩
  · cases h; exact .inr (.inl ⟨_, _, rfl, rfl, rfl⟩)
  · cases h; exact .inr (.inr (.inl ⟨_, _, rfl, rfl, rfl⟩))
  · split at h
    · rename_i hk
      rw [Bool.and_eq_true] at hk
      cases h
      exact .inr (.inr (.inr ⟨hk.1, hk.2, rfl⟩))
    · cases h
theorem gNe_gen {a b d : D} (h : gNe a b = some d) : (∃ i j, a = .int i ∧ b = .int j ∧ d = .bl (!decide (i = j))) ∨ (∃ i j, a = .str i ∧ b = .str j ∧ d = .bl (!decide (i = j))) ∨ (∃ i j, a = .bl i ∧ b = .bl j ∧ d = .bl (!decide (i = j))) ∨
    (okE a = true ∧ okE b = true ∧ d = .bl (!eqDD a b)) := by
  unfold gNe at h
  split at h
  · cases h; exact .inl ⟨_, _, rfl, rfl, rfl⟩
  · cases h; exact .inr (.inl ⟨_, _, rfl, rfl, rfl⟩)
  · cases h; exact .inr (.inr (.inl ⟨_, _, rfl, rfl, rfl⟩))
  · split at h
    · rename_i hk
      rw [Bool.and_eq_true] at hk
      cases h
      exact .inr (.inr (.inr ⟨hk.1, hk.2, rfl⟩))
    · cases h
theorem od_eq {k : Nat} (hr : Room k X.A) : OpD X (compareOp .Eq) gEq := by
  intro pins s σ H x y v u Q I rx ry h'
  obtain ⟨O, F, as, dx, dy, d, r, hx, hy, e, k⟩ := h'
  rcases gEq_gen e with ⟨i, j, rfl, rfl, rfl⟩ | ⟨i, j, rfl, rfl, rfl⟩ | ⟨i, j, rfl, rfl, rfl⟩ | ⟨h1, h2, rfl⟩
  · cases (hx.rp rfl).unI
    cases (hy.rp rfl).unI
    refine op_eq pins s σ H _ _ v u Q I rx ry ⟨rfl, ?_⟩
    rw [dec_I]
    exact k_val r k rfl Rp.bl
  · cases (hx.rp rfl).unS
    cases (hy.rp rfl).unS
    refine op_eq pins s σ H _ _ v u Q I rx ry ⟨rfl, ?_⟩
    rw [dec_S]
    exact k_val r k rfl Rp.bl
  · cases (hx.rp rfl).unB
    cases (hy.rp rfl).unB
    refine op_eq pins s σ H _ _ v u Q I rx ry ⟨rfl, ?_⟩
    rw [dec_B]
    exact k_val r k rfl Rp.bl
  · unfold okE at h1 h2
    rw [Bool.and_eq_true] at h1 h2
    exact op_eqD hr pins s σ H _ _ v u Q I rx ry ⟨toP dx, toP dy, hx.rep r.fh h1.1, hy.rep r.fh h2.1, h1.2, h2.2, k_val r k rfl Rp.bl⟩
theorem od_ne {k : Nat} (hr : Room k X.A) : OpD X (compareOp .NotEq) gNe := by
  intro pins s σ H x y v u Q I rx ry h'
  obtain ⟨O, F, as, dx, dy, d, r, hx, hy, e, k⟩ := h'
  rcases gNe_gen e with ⟨i, j, rfl, rfl, rfl⟩ | ⟨i, j, rfl, rfl, rfl⟩ | ⟨i, j, rfl, rfl, rfl⟩ | ⟨h1, h2, rfl⟩
  · cases (hx.rp rfl).unI
    cases (hy.rp rfl).unI
    refine op_ne pins s σ H _ _ v u Q I rx ry ⟨rfl, ?_⟩
    rw [dec_I]
    exact k_val r k rfl Rp.bl
  · cases (hx.rp rfl).unS
    cases (hy.rp rfl).unS
    refine op_ne pins s σ H _ _ v u Q I rx ry ⟨rfl, ?_⟩
    rw [dec_S]
    exact k_val r k rfl Rp.bl
  · cases (hx.rp rfl).unB
    cases (hy.rp rfl).unB
    refine op_ne pins s σ H _ _ v u Q I rx ry ⟨rfl, ?_⟩
    rw [dec_B]
    exact k_val r k rfl Rp.bl
  · unfold okE at h1 h2
    rw [Bool.and_eq_true] at h1 h2
    exact op_neD hr pins s σ H _ _ v u Q I rx ry ⟨toP dx, toP dy, hx.rep r.fh h1.1, hy.rep r.fh h2.1, h1.2, h2.2, k_val r k rfl Rp.bl⟩
def toV : D → V
  | .bl b => .bl b
  | .int i => .int i
  | .str l => .str (S l)
  | _ => .non
def flatD : D → Bool
  | .non => true
  | .bl _ => true
  | .int _ => true
  | .str _ => true
  | _ => false
def eqF (x y : D) : Bool := eqV (toV x) (toV y)
theorem Rp.flat {K : Frag} {F : Hp} {as : List Addr} {v : V} {d : D} (h : Rp K F as v d) (hf : flatD d = true) : v = toV d ∧ flatV v = true := by
  cases d with
  | non => rw [h.unN]; exact ⟨rfl, rfl⟩
  | bl b => rw [h.unB]; exact ⟨rfl, rfl⟩
  | int b => rw [h.unI]; exact ⟨rfl, rfl⟩
  | str b => rw [h.unS]; exact ⟨rfl, rfl⟩
  | _ => cases hf
theorem Rps.flat {K : Frag} {F : Hp} {as : List Addr} : ∀ {ds : List D} {xs : List V}, Rps K F as xs ds → ds.all flatD = true → xs = ds.map toV ∧ xs.all flatV = true
  | [], xs, h, _ => by rw [h.un0]; exact ⟨rfl, rfl⟩
  | d :: ds, xs, h, hf => by
    obtain ⟨x, r, rfl, h2, h3⟩ := h.un
    rw [List.all_cons, Bool.and_eq_true] at hf
    obtain ⟨e1, e2⟩ := h2.flat hf.1
    obtain ⟨e3, e4⟩ := Rps.flat h3 hf.2
    exact ⟨by rw [List.map_cons, ← e1, ← e3], by rw [List.all_cons, e2, e4]; rfl⟩
def gIn (neg : Bool) : D → D → Option D
  | .str [c], .str l => some (.bl (neg ^^ decide (c ∈ l)))
  | x, .lst ds => if (flatD x && ds.all flatD) = true then some (.bl (neg ^^ ds.any fun y => eqF y x)) else none
  | x, .tup ds => if (flatD x && ds.all flatD) = true then some (.bl (neg ^^ ds.any fun y => eqF y x)) else none
  | _, _ => none
theorem gIn_gen {neg : Bool} {a b d : D} (h : gIn neg a b = some d) : (∃ c l, a = .str [c] ∧ b = .str l ∧ d = .bl (neg ^^ decide (c ∈ l))) ∨ (∃ ds, (b = .lst ds ∨ b = .tup ds) ∧ flatD a = true ∧ ds.all flatD = true ∧ d = .bl (neg ^^ ds.any fun y => eqF y a)) := by
  unfold gIn at h
  split at h
  · cases h; exact .inl ⟨_, _, rfl, rfl, rfl⟩
  · split at h
    · rename_i hk
      rw [Bool.and_eq_true] at hk
      cases h
      exact .inr ⟨_, .inl rfl, hk.1, hk.2, rfl⟩
    · cases h
  · split at h
    · rename_i hk
      rw [Bool.and_eq_true] at hk
      cases h
      exact .inr ⟨_, .inr rfl, hk.1, hk.2, rfl⟩
    · cases h
  · cases h
theorem in_flat {x : D} {ds : List D} : inV (toV x) (ds.map toV) = ds.any fun y => eqF y x := by
  unfold inV
  rw [List.any_map]
  rfl
theorem seen_seq {K : Frag} {mg : Str → Option Value} {H F : Hp} {as : List Addr} {O : Store} {v : V} {b : D} {ds : List D} (r : RlO K mg O H F as) (hy : Lk K H F as v b) (hb : b = .lst ds ∨ b = .tup ds) : ∃ p xs, v = .ref p ∧ (SqL K H p xs ∨ SqT K H p xs) ∧ Rps K F as xs ds := by
  rcases hb with rfl | rfl
  · obtain ⟨p, xs, e, h1, h2⟩ := hy.list r.fh
    exact ⟨p, xs, e, .inl h1.sq, h2⟩
  · obtain ⟨p, xs, e, h1, h2⟩ := (hy.rp rfl).unT
    exact ⟨p, xs, e, .inr (Same.seqT r.fh h1), h2⟩
theorem flat_notL {d : D} (h : flatD d = true) : notL d = true := by cases d <;> first | rfl | cases h
theorem od_in : OpD X (compareOp .In) (gIn false) := by
  intro pins s σ H x y v u Q I rx ry h'
  obtain ⟨O, F, as, dx, dy, d, r, hx, hy, e, k⟩ := h'
  rcases gIn_gen e with ⟨c, l, rfl, rfl, rfl⟩ | ⟨ds, hb, h1, h2, rfl⟩
  · cases (hx.rp rfl).unS
    cases (hy.rp rfl).unS
    refine op_in_one pins s σ H _ _ v u Q I rx ry ⟨c, l, rfl, rfl, ?_⟩
    rw [Bool.false_xor] at k
    exact k_val r k rfl Rp.bl
  · obtain ⟨p, xs, rfl, h3, h4⟩ := seen_seq r hy hb
    obtain ⟨e1, e2⟩ := (hx.rp (flat_notL h1)).flat h1
    obtain ⟨e3, e4⟩ := h4.flat h2
    refine op_in_seq pins s σ H _ _ v u Q I rx ry ⟨p, xs, rfl, h3, e2, e4, ?_⟩
    rw [if_neg Bool.false_ne_true, e1, e3, in_flat]
    rw [Bool.false_xor] at k
    exact k_val r k rfl Rp.bl
def gIx : D → D → Option D
  | .lst ds, .int i => atI ds i
  | .tup ds, .int i => atI ds i
  | .str l, .int i => if l.length ≤ 1000000 then (atI l i).map fun c => .str [c] else none
  | _, _ => none
theorem Rps.atI {K : Frag} {F : Hp} {as : List Addr} {xs : List V} {ds : List D} {i : Int} {d : D} (h : Rps K F as xs ds) (e : atI ds i = some d) : ∃ v, L2.atI xs i = some v ∧ Rp K F as v d := by
  unfold L2.atI at e ⊢
  rw [h.length]
  cases q : ixN ds.length i with
  | none => rw [q] at e; cases e
  | some j =>
    rw [q] at e
    exact h.get' e
def rDv (K : Frag) (mg : Str → Option Value) (g : D → D → Option D) : R2 := fun x y H Q => ∃ O F as dx dy d, RlO K mg O H F as ∧ Lk K H F as x dx ∧ Lk K H F as y dy ∧ g dx dy = some d ∧ ∀ v', Rp K F as v' d → Q v' H
theorem ix_D : IxR X (rDv X.K X.mg gIx) := by
  intro value slice pins s σ H x y v u Q I rx ry h' hsb
  obtain ⟨O, F, as, dx, dy, d, r, hx, hy, e, k⟩ := h'
  cases dx with
  | lst ds =>
    obtain ⟨p, xs, rfl, h1, h2⟩ := hx.list r.fh
    cases dy with
    | int i =>
      cases (hy.rp rfl).unI
      obtain ⟨z, e1, e2⟩ := h2.atI e
      exact ix_list value slice pins s σ H _ _ v u Q I rx ry ⟨p, xs, i, z, rfl, rfl, h1.sq, e1, k z e2⟩ hsb
    | _ => cases e
  | tup ds =>
    obtain ⟨p, xs, rfl, h1, h2⟩ := (hx.rp rfl).unT
    cases dy with
    | int i =>
      cases (hy.rp rfl).unI
      obtain ⟨z, e1, e2⟩ := h2.atI e
      exact ix_tup value slice pins s σ H _ _ v u Q I rx ry ⟨p, xs, i, z, rfl, rfl, Same.seqT r.fh h1, e1, k z e2⟩ hsb
    | _ => cases e
  | str l =>
    cases (hx.rp rfl).unS
    cases dy with
    | int i =>
      cases (hy.rp rfl).unI
      simp only [gIx] at e
      split at e
      · rename_i hz
        cases q : L2.atI l i with
        | none => rw [q] at e; cases e
        | some c =>
          rw [q] at e
          cases e
          exact ix_str value slice pins s σ H _ _ v u Q I rx ry ⟨S l, i, c, rfl, rfl, by rw [S_length]; exact size6 hz, by rw [S_cps]; exact q, k _ Rp.str⟩ hsb
      · cases e
    | _ => cases e
  | _ => cases e
theorem ve_ix {md : List Md} {P : Pt} {a b : Expr} {pos : Pos} {ma mb : M D} (ha : SE X md P a ma) (hb : SE X md P b mb) (hs : PlainIx b := by intro _ _; rfl) : VE X md P (.Subscript a b pos) (mBin gIx ma mb) := (pe_ix ix_D ha hb hs).imp fun σ H Q h => by
  obtain ⟨ρ, O, F, as, d, O', r, sl, e, k⟩ := h
  obtain ⟨x, O1, e1, e⟩ := Res.bind_ok e
  obtain ⟨y, O2, e2, e⟩ := Res.bind_ok e
  split at e
  · rename_i d' hg
    cases e
    refine ⟨ρ, _, F, as, _, _, r, sl, e1, fun v H1 F1 as1 g1 r1 hv => ?_⟩
    refine ⟨ρ, _, F1, as1, _, _, r1, sl.step g1, e2, fun u H2 F2 as2 g2 r2 hu => ?_⟩
    exact ⟨_, F2, as2, _, _, _, r2, Sv.lk (Sv.gr hv g2) r2, Sv.lk hu r2, hg, fun v' hw => k v' H2 F2 as2 (g1.trans g2) r2 hw⟩
  · cases e
def tMO (K : Frag) (mg : Str → Option Value) (md : List Md) (P : Pt) (m : M (Option Int)) : TO := fun σ H Q =>
  ∃ ρ O F as b O', RlO K mg O H F as ∧ SlO K md P ρ σ H F as ∧ m ρ O = .ok b O' ∧ ∀ H' F' as', Gr H F as H' F' as' → RlO K mg O' H' F' as' → Q b H'
def VO (X : Cx) (md : List Md) (P : Pt) (e : Option Expr) (m : M (Option Int)) : Prop := PO X e (tMO X.K X.mg md P m)
theorem PO.imp {e : Option Expr} {t t' : TO} (h : PO X e t) (k : ∀ σ H Q, t' σ H Q → t σ H Q) : PO X e t' := fun pins s σ H Q I q => h pins s σ H Q I (k σ H Q q)
def moN : M (Option Int) := fun _ O => .ok none O
def moS (m : M D) : M (Option Int) := fun ρ O => (m ρ O).bind fun d O1 => match d with
  | .int i => .ok (some i) O1
  | _ => .no
theorem vo_none {md : List Md} {P : Pt} : VO X md P none moN := po_none.imp fun σ H Q q => by
  obtain ⟨ρ, O, F, as, d, O', r, s, e, k⟩ := q
  cases e
  exact k H F as Gr.refl r
theorem vo_some {md : List Md} {P : Pt} {e : Expr} {m : M D} (h : VE X md P e m) : VO X md P (some e) (moS m) := (po_some h).imp fun σ H Q q => by
  obtain ⟨ρ, O, F, as, d, O', r, s, e, k⟩ := q
  obtain ⟨x, O1, e1, e⟩ := Res.bind_ok e
  cases x with
  | int i =>
    cases e
    exact ⟨ρ, _, F, as, _, _, r, s, e1, fun v H1 F1 as1 g1 r1 hv => ⟨i, Rp.unI hv, k H1 F1 as1 g1 r1⟩⟩
  | _ => cases e
def gSl (d : D) (lo hi : Option Int) : Option D := match d with
  | .lst ds => some (.lst (cutN ds lo hi))
  | .tup ds => some (.tup (cutN ds lo hi))
  | .str l => if l.length ≤ 16777216 then some (.str (cutN l lo hi)) else none
  | _ => none
def rSlD (K : Frag) (mg : Str → Option Value) : V → Option Int → Option Int → Hp → VK → Prop := fun x lo hi H Q => ∃ O F as dx d, RlO K mg O H F as ∧ Lk K H F as x dx ∧ gSl dx lo hi = some d ∧
  ∀ v' H' F', Gr H F as H' F' as → RlO K mg O H' F' as → Ow K (fun a => H a = none) H' F' as v' d → Q v' H'
theorem Rps.cut {K : Frag} {F : Hp} {as : List Addr} {xs : List V} {ds : List D} (h : Rps K F as xs ds) (lo hi : Option Int) : Rps K F as (cutV xs lo hi) (cutN ds lo hi) := by
  unfold cutV cutN
  rw [h.length]
  exact (h.drop _).take _
theorem sl_D : SlR X (rSlD X.K X.mg) := by
  intro pins s σ H x v vl vu lo hi sl Q I rx hs pl pu h
  obtain ⟨O, F, as, dx, d, r, hx, e, k⟩ := h
  cases dx with
  | lst ds =>
    obtain ⟨p, xs, rfl, h1, h2⟩ := hx.list r.fh
    cases e
    exact sl_list pins s σ H _ v vl vu lo hi sl Q I rx hs pl pu ⟨p, xs, rfl, h1.sq, fun q hq => k_lst r k hq (h2.cut lo hi)⟩
  | tup ds =>
    obtain ⟨p, xs, rfl, h1, h2⟩ := (hx.rp rfl).unT
    cases e
    refine sl_tup2 X.K rfl pins s σ H _ v vl vu lo hi sl Q I rx hs pl pu ⟨p, xs, rfl, Same.seqT r.fh h1, fun z => ?_, fun _ q hq => k_tup r k hq (h2.cut lo hi)⟩
    have : cutN ds lo hi = ds := by
      unfold cutN
      rw [← h2.length, z.1, z.2, List.drop_zero, Nat.sub_zero, h2.length, List.take_length]
    rw [this] at k
    exact k_val r k rfl (hx.rp rfl)
  | str l =>
    cases (hx.rp rfl).unS
    simp only [gSl] at e
    split at e
    · rename_i hz
      cases e
      exact sl_str pins s σ H _ v vl vu lo hi sl Q I rx hs pl pu ⟨l, rfl, Nat.le_trans hz (Nat.le_of_eq sizeLine_eq.symm), k_val r k rfl Rp.str⟩
    · cases e
  | _ => cases e
def mSl (m : M D) (lo hi : M (Option Int)) : M D := fun ρ O => (m ρ O).bind fun d O1 => (lo ρ O1).bind fun l O2 => (hi ρ O2).bind fun h O3 => match gSl (deref O3 d) l h with
  | some y => .ok y O3
  | none => .no
end
end L2
namespace L2
open PySem PySem.Spec PyProof.Rows
section
variable {X : Cx} {md : List Md} {P : Pt} {R : RR}
theorem oe_slice {e : Expr} {lo hi : Option Expr} {p2 pos : Pos} {m : M D} {ml mh : M (Option Int)} (he : SE X md P e m) (hl : VO X md P lo ml) (hh : VO X md P hi mh) : OE X md P (.Subscript e (.Slice lo hi none p2) pos) (mSl m ml mh) := (pe_slice sl_D he hl hh).imp fun σ H Q q => by
  obtain ⟨ρ, O, F, as, d, O', r, s, e, k⟩ := q
  obtain ⟨x, O1, e1, e⟩ := Res.bind_ok e
  obtain ⟨l, O2, e2, e⟩ := Res.bind_ok e
  obtain ⟨h, O3, e3, e⟩ := Res.bind_ok e
  split at e
  · rename_i y hg
    cases e
    refine ⟨ρ, _, F, as, _, _, r, s, e1, fun v H1 F1 as1 g1 r1 hv => ?_⟩
    refine ⟨ρ, _, F1, as1, _, _, r1, s.step g1, e2, fun H2 F2 as2 g2 r2 => ?_⟩
    have g12 := g1.trans g2
    refine ⟨ρ, _, F2, as2, _, _, r2, s.step g12, e3, fun H3 F3 as3 g3 r3 => ?_⟩
    have g13 := g12.trans g3
    exact ⟨_, F3, as3, _, _, r3, Sv.lk (Sv.gr (Sv.gr hv g2) g3) r3, hg, fun v' H' F' g' r' hw => k v' H' F' as3 (g13.trans g') r' (rO_ok _ _ _ _ _ _ _ (fun a ha => g13.dm a ha) hw)⟩
  · cases e
def Lks (K : Frag) (H F : Hp) (as : List Addr) : List V → List D → Prop
  | [], [] => True
  | v :: vs, d :: ds => Lk K H F as v d ∧ Lks K H F as vs ds
  | _, _ => False
theorem ArgsR.lks {K : Frag} {mg : Str → Option Value} {O : Store} {H F : Hp} {as : List Addr} (r : RlO K mg O H F as) : ∀ {ms : List Md} {vs : List V} {ds : List D}, ArgsR K H F as ms vs ds → Lks K H F as vs (ds.map (deref O))
  | [], [], [], _ => trivial
  | m :: ms, v :: vs, d :: ds, h => by
    refine ⟨?_, ArgsR.lks r h.2⟩
    have h1 : Sv K H F as v d := by
      cases m with
      | v => exact .inl h.1
      | s => exact h.1
      | o => exact h.1
    exact h1.lk r
  | [], [], _ :: _, h => h.elim
  | [], _ :: _, [], h => h.elim
  | [], _ :: _, _ :: _, h => h.elim
  | _ :: _, [], [], h => h.elim
  | _ :: _, [], _ :: _, h => h.elim
  | _ :: _, _ :: _, [], h => h.elim
def rC (K : Frag) (mg : Str → Option Value) (g : List D → Option D) : List V → Hp → VK → Prop := fun vs H Q => ∃ O F as ds d, RlO K mg O H F as ∧ Lks K H F as vs ds ∧ g ds = some d ∧
  ∀ v' H' F', Gr H F as H' F' as → RlO K mg O H' F' as → Ow K (fun a => H a = none) H' F' as v' d → Q v' H'
abbrev CallD (X : Cx) (f : Value) (g : List D → Option D) : Prop := CallR X f (rC X.K X.mg g)
def mCallB (g : List D → Option D) (ma : M (List D)) : M D := fun ρ O => (ma ρ O).bind fun ds O1 => match g (ds.map (deref O1)) with
  | some d => .ok d O1
  | none => .no
theorem callB_go {K : Frag} {mg : Str → Option Value} {g : List D → Option D} {ms : List Md} {ma : M (List D)} {σ : St} {H : Hp} {Q : VK} (q : tM K mg md P (rO K) (mCallB g ma) σ H Q) : tCB (rC K mg g) (tMA K mg md P ms ma) σ H Q := by
  obtain ⟨ρ, O, F, as, d, O', r, s, e, k⟩ := q
  obtain ⟨ds, O1, e1, e⟩ := Res.bind_ok e
  split at e
  · rename_i y hg
    cases e
    refine ⟨ρ, _, F, as, _, _, r, s, e1, fun vs H1 F1 as1 g1 r1 hv => ?_⟩
    exact ⟨_, F1, as1, _, _, r1, hv.lks r1, hg, fun v' H' F' g' r' hw => k v' H' F' as1 (g1.trans g') r' (rO_ok _ _ _ _ _ _ _ (fun a ha => g1.dm a ha) hw)⟩
  · cases e
theorem oe_callB {x : Str} {p pos : Pos} {e : Expr} {es : List Expr} {id : String} {g : List D → Option D} {ms : List Md} {ma : M (List D)} (hc : CallD X (.builtin id) g) (hm : X.mg x = none) (ha : AE X md P ms (e :: es) ma) (hv : bootBuiltins x = some (.builtin id) := by decide +kernel) (hg : Gl X x := by rfl)
    (hn : x ≠ "__name__" := by decide) (hdb : (x == ("__debug__" : Str)) = false := by decide) (he : starEach (e :: es) X.env = (false, eval e X.env) :: starEach es X.env := by exact starC rfl) (hpl : (backTo pos (starEach es X.env)).any (·.1) = false := by exact starAny rfl) :
    OE X md P (.Call (.Name x p) (e :: es) [] pos) (mCallB g ma) := (pe_callB hc hg hm hv ha hn hdb he hpl).imp fun _ _ _ q => callB_go q
theorem oe_callT {x : Str} {p pos : Pos} {e : Expr} {es : List Expr} {T : String} {g : List D → Option D} {ms : List Md} {ma : M (List D)} (hc : CallD X (.type T) g) (hm : X.mg x = none) (ha : AE X md P ms (e :: es) ma) (hv : bootBuiltins x = some (.type T) := by decide +kernel) (hg : Gl X x := by rfl)
    (hn : x ≠ "__name__" := by decide) (hdb : (x == ("__debug__" : Str)) = false := by decide) (he : starEach (e :: es) X.env = (false, eval e X.env) :: starEach es X.env := by exact starC rfl) (hpl : (backTo pos (starEach es X.env)).any (·.1) = false := by exact starAny rfl) :
    OE X md P (.Call (.Name x p) (e :: es) [] pos) (mCallB g ma) := (pe_callTy hc hg hm hv ha hn hdb he hpl).imp fun _ _ _ q => callB_go q
theorem Lks.one {K : Frag} {H F : Hp} {as : List Addr} {vs : List V} {d : D} (h : Lks K H F as vs [d]) : ∃ v, vs = [v] ∧ Lk K H F as v d := by
  cases vs with
  | nil => exact h.elim
  | cons v vs =>
    cases vs with
    | nil => exact ⟨v, rfl, h.1⟩
    | cons u us => exact h.2.elim
def gLen : List D → Option D
  | [.str l] => if l.length ≤ 1000000 then some (.int l.length) else none
  | [.lst ds] => some (.int ds.length)
  | [.tup ds] => some (.int ds.length)
  | _ => none
theorem cd_len : CallD X (.builtin "len") gLen := by
  intro pins s σ H xs us Q I rs h
  obtain ⟨O, F, as, ds, d, r, hvs, e, k⟩ := h
  unfold gLen at e
  split at e
  · rename_i l
    obtain ⟨v, rfl, hv⟩ := hvs.one
    split at e
    · rename_i hz
      cases e
      cases (hv.rp rfl).unS
      refine call_len pins s σ H _ us Q I rs ⟨_, _, rfl, ⟨by rw [S_length]; exact size6 hz, rfl⟩, ?_⟩
      rw [S_length]
      exact k_val r k rfl Rp.int
    · cases e
  · rename_i l
    obtain ⟨v, rfl, hv⟩ := hvs.one
    cases e
    obtain ⟨p, xs, rfl, h1, h2⟩ := hv.list r.fh
    refine call_len pins s σ H _ us Q I rs ⟨_, _, rfl, .inl ⟨xs, h1.sq, rfl⟩, ?_⟩
    rw [h2.length]
    exact k_val r k rfl Rp.int
  · rename_i l
    obtain ⟨v, rfl, hv⟩ := hvs.one
    cases e
    obtain ⟨p, xs, rfl, h1, h2⟩ := (hv.rp rfl).unT
    refine call_len pins s σ H _ us Q I rs ⟨_, _, rfl, .inr ⟨xs, Same.seqT r.fh h1, rfl⟩, ?_⟩
    rw [h2.length]
    exact k_val r k rfl Rp.int
  · cases e
def gMax : List D → Option D
  | [.int i, .int j] => some (.int (if j > i then j else i))
  | _ => none
def gMin : List D → Option D
  | [.int i, .int j] => some (.int (if j < i then j else i))
  | _ => none
def gInt : List D → Option D
  | [.int i] => some (.int i)
  | [.bl b] => some (.int (if b then 1 else 0))
  | _ => none
def gList : List D → Option D
  | [.lst ds] => some (.lst ds)
  | [.tup ds] => some (.lst ds)
  | _ => none
theorem cd_list : CallD X (.type "list") gList := by
  intro pins s σ H xs us Q I rs h
  obtain ⟨O, F, as, ds, d, r, hvs, e, k⟩ := h
  unfold gList at e
  split at e
  · obtain ⟨v, rfl, hv⟩ := hvs.one
    cases e
    obtain ⟨p, xs, rfl, h1, h2⟩ := hv.list r.fh
    exact call_list_of pins s σ H _ us Q I rs ⟨p, xs, rfl, .inl h1.sq, fun l hl => k_lst r k hl h2⟩
  · obtain ⟨v, rfl, hv⟩ := hvs.one
    cases e
    obtain ⟨p, xs, rfl, h1, h2⟩ := (hv.rp rfl).unT
    exact call_list_of pins s σ H _ us Q I rs ⟨p, xs, rfl, .inr (Same.seqT r.fh h1), fun l hl => k_lst r k hl h2⟩
  · cases e
theorem bb_len : bootBuiltins "len" = some (.builtin "len") := by decide +kernel
theorem bt_int : bootBuiltins "int" = some (.type "int") := by decide +kernel
theorem bt_str : bootBuiltins "str" = some (.type "str") := by decide +kernel
theorem bt_bool : bootBuiltins "bool" = some (.type "bool") := by decide +kernel
theorem bt_list : bootBuiltins "list" = some (.type "list") := by decide +kernel
theorem bt_tuple : bootBuiltins "tuple" = some (.type "tuple") := by decide +kernel
def tyD : D → Option String
  | .non => some "NoneType"
  | .bl _ => some "bool"
  | .int _ => some "int"
  | .str _ => some "str"
  | .lst _ => some "list"
  | .tup _ => some "tuple"
  | .dic _ _ => some "dict"
  | .ob _ => none
def isTy (t n : String) : Bool := t == n || (t == "bool" && n == "int")
def mIsi (n : String) (m : M D) : M D := fun ρ O => (m ρ O).bind fun d O1 => match tyD (deref O1 d) with
  | some t => .ok (.bl (isTy t n)) O1
  | none => .no
def isiT : List String := ["str", "int", "bool", "list", "tuple", "dict"]
theorem kit_all (K : Frag) : ∀ d t, tyD d = some t → ∀ n ∈ isiT, PySem.W.kitOne K (.type t) (.type n) = some (isTy t n) := by
  intro d t e n hn
  simp only [isiT, List.mem_cons, List.not_mem_nil, or_false] at hn
  cases d <;> cases e <;> rcases hn with rfl | rfl | rfl | rfl | rfl | rfl <;> first | exact kit_same K _ | kernel_rfl
theorem Lk.ty {K : Frag} {H F : Hp} {as : List Addr} {v : V} {d : D} {t : String} (h : Lk K H F as v d) (fh : Same F H) (e : tyD d = some t) : TyQ K H v t := by
  cases d with
  | non => cases e; rw [(h.rp rfl).unN]; exact .non
  | bl b => cases e; rw [(h.rp rfl).unB]; exact .bl _
  | int b => cases e; rw [(h.rp rfl).unI]; exact .int _
  | str b => cases e; rw [(h.rp rfl).unS]; exact .str _
  | lst ds => cases e; obtain ⟨p, xs, rfl, h1, h2⟩ := h.list fh; exact .lst h1.sq
  | tup ds => cases e; obtain ⟨p, xs, rfl, h1, h2⟩ := (h.rp rfl).unT; exact .tup (Same.seqT fh h1)
  | dic ks vs => cases e; obtain ⟨p, xs, rfl, h1, h2⟩ := (h.rp rfl).unD; exact .dK (fh _ _ h1)
  | ob n => cases e
theorem oe_isi (n : String) {T : Str} {a : Expr} {p p' pos : Pos} {m : M D} (hm : X.mg "isinstance" = none) (hT : X.mg T = none) (h : SE X md P a m) (hb : bootBuiltins T = some (.type n) := by decide +kernel) (hn : n ∈ isiT := by decide) (hg : Gl X "isinstance" := by rfl) (hgT : Gl X T := by rfl)
    (hTn : T ≠ "__name__" := by decide) (hTd : (T == ("__debug__" : Str)) = false := by decide)
    (hs1 : starEach [a, .Name T p'] X.env = (false, eval a X.env) :: starEach [.Name T p'] X.env := by exact starC rfl) (hs2 : starEach [.Name T p'] X.env = (false, eval (.Name T p') X.env) :: starEach [] X.env := by rfl) (hpl : (backTo pos (starEach [.Name T p'] X.env)).any (·.1) = false := by exact starAny rfl) :
    OE X md P (.Call (.Name "isinstance" p) [a, .Name T p'] [] pos) (mIsi n m) :=
  (pe_callB (call_isiK X.K) hg hm (by decide +kernel) (pa_cons h (pa_cons (pe_bltn (v := .ty n) hgT hT hb rfl hTn hTd) pa_nil hs2) hs1) (by decide) (by decide) hs1 hpl).imp fun σ H Q q => by
    obtain ⟨ρ, O, F, as, d, O', r, s, e, k⟩ := q
    obtain ⟨x, O1, e1, e⟩ := Res.bind_ok e
    split at e
    · rename_i t ht
      cases e
      refine ⟨ρ, _, F, as, _, _, r, s, e1, fun v H1 F1 as1 g1 r1 hv => ?_⟩
      exact ⟨v, n, t, _, rfl, Lk.ty (Sv.lk hv r1) r1.fh ht, kit_all _ _ t ht n hn, k _ H1 F1 as1 g1 r1 (.inl ⟨rfl, Rp.bl⟩)⟩
    · cases e
def mList (m : M D) : M (List D) := fun ρ O => (m ρ O).bind fun d O1 => match d with
  | .lst ds => .ok ds O1
  | _ => .no
def mTupI (m : M D) : M (List D) := fun ρ O => (m ρ O).bind fun d O1 => match d with
  | .tup ds => .ok ds O1
  | _ => .no
theorem jok_list {K : Frag} {mg : Str → Option Value} {H F : Hp} {as : List Addr} {a : Addr} {xs : List V} {ds : List D} (hs : Rps K F as xs ds) (hp : ∀ (H2 F2 : Hp) (as2 : List Addr), GrS P H F as H2 F2 as2 → (∃ O, RlO K mg O H2 F2 as2) → RdK K H2 a xs) : JOk K mg P (Itl K a) ds H F as := by
  refine ⟨fun i d H2 F2 as2 g r e => ?_, fun H2 F2 as2 g r => ⟨xs, (hp H2 F2 as2 g r).sq, by rw [hs.length]; exact Nat.le_refl _⟩⟩
  obtain ⟨x, h1, h2⟩ := hs.get' e
  have q := hp H2 F2 as2 g r
  refine ⟨⟨xs, x, q.sq, h1⟩, fun y H3 hy => ?_⟩
  obtain ⟨rfl, hy⟩ := hy
  have := hy xs q.sq
  rw [h1] at this
  cases this
  exact ⟨F2, Gr.refl, fun _ r => r, h2.grS g⟩
end
end L2
namespace L2
open PySem PySem.Spec PyProof.Rows
section
variable {X : Cx} {pins : List (Addr × Obj)} {σ : St} {H : Hp} {s : Shared}
theorem Inv.turnL {ch : List Addr} {h' : Heap} {t' : Nat} (I : Inv X pins σ H s) (hch : ∀ b ∈ ch, FpOk X pins H b) (k : ∀ b o, b ∉ ch → s.heap.get? b = some o → h'.get? b = some o) : Inv X pins σ H { s with heap := h', toks := t' } := by
  have nit : ∀ b u, H b = some u → b ∉ ch := fun b u e z => by rw [(hch b z).1] at e; cases e
  refine I.step (g' := s.gens) (d' := s.drawn) (ch := ch) (fun b hb => ?_) (fun b o _ _ hc e _ => k b o hc e) (fun b o _ _ hc e _ => ⟨o.slots, k b o hc e⟩) (fun _ _ _ _ n => n)
    (fun b o hc e => ⟨o, k b o hc e⟩) (fun _ _ e => e) (fun _ _ _ e => e) (fun b ps e => ⟨#[], by rw [e]; simp⟩) (fun m hm => ?_) (fun b u e => ?_) I.bare
  · obtain ⟨f0, f1, f2, f3, f4, f5⟩ := hch b hb
    exact ⟨f3, f1, f4, f5⟩
  · obtain ⟨o, es, ep, ho, r⟩ := hm
    exact ⟨o, es, ep, k _ o (fun z => (hch _ z).2.1 rfl) ho, r⟩
  · refine (I.hok b u e).stay (fun c v hc q => k c v ?_ q) (fun _ q => q) fun _ _ q => q
    rcases hc with z | z
    · rw [z]; exact nit b u e
    · exact nit c _ z
theorem Inv.turnT {ch : List Addr} {h' : Heap} {t' : Nat} {T : Addr} {vs : List V} {us : List Value} (I : Inv X pins σ H s) (hch : ∀ b ∈ ch, FpOk X pins H b) (k : ∀ b o, b ∉ ch → s.heap.get? b = some o → h'.get? b = some o)
    (hT : s.heap.objs.size ≤ T) (new : IsTup h' T us.toArray) (hv : Vals vs us) (hz : vs.length ≤ sizeLine) : Inv X pins σ (upd H T (.tup vs)) { s with heap := h', toks := t' } := by
  have hn : H T = none := I.hok.fresh hT
  have nit : ∀ b u, H b = some u → b ∉ ch := fun b u e z => by rw [(hch b z).1] at e; cases e
  have ne : ∀ b o, s.heap.get? b = some o → b ≠ T := fun b o e z => by
    subst z
    exact absurd (Heap.lt_size e) (Nat.not_lt_of_le hT)
  refine I.step (g' := s.gens) (d' := s.drawn) (ch := ch) (fun b hb => ?_) (fun b o _ _ hc e _ => k b o hc e) (fun b o _ _ hc e _ => ⟨o.slots, k b o hc e⟩) (fun b o _ e n => by rw [upd_ne (ne b o e)]; exact n)
    (fun b o hc e => ⟨o, k b o hc e⟩) (fun b _ e => by rw [upd_ne (ne_of_none e hn)]; exact e) (fun b _ _ e => by rw [upd_ne (ne_of_none e hn)]; exact e) (fun b ps e => ⟨#[], by rw [upd_ne (ne_of_none e hn), e]; simp⟩) (fun m hm => ?_) (fun b u e => ?_) I.bare
  · obtain ⟨f0, f1, f2, f3, f4, f5⟩ := hch b hb
    exact ⟨f3, f1, f4, f5⟩
  · obtain ⟨o, es, ep, ho, r⟩ := hm
    exact ⟨o, es, ep, k _ o (fun z => (hch _ z).2.1 rfl) ho, r⟩
  · by_cases hb : b = T
    · subst hb
      rw [upd_same] at e
      cases e
      exact ⟨hz, us, hv, new⟩
    · rw [upd_ne hb] at e
      refine (I.hok b u e).stay (fun c v hc q => k c v ?_ q) (fun c q => by rw [upd_ne (ne_of_none q hn)]; exact q) fun c xs q => by rw [upd_ne (ne_of_none q hn)]; exact q
      rcases hc with z | z
      · rw [z]; exact nit b u e
      · exact nit c _ z
end
def Ite (K : Frag) (l : Addr) : It := ⟨fun i H => ∃ xs x, SqL K H l xs ∧ xs[i]? = some x, fun i H v H' => ∃ T x, v = .ref T ∧ H T = none ∧ H' = upd H T (.tup [.int i, x]) ∧ ∀ xs, SqL K H l xs → xs[i]? = some x, fun i H => ∃ xs, SqL K H l xs ∧ xs.length ≤ i⟩
def Ites (l : List Nat) : It := ⟨fun i _ => i < l.length, fun i H v H' => ∃ T c, v = .ref T ∧ H T = none ∧ H' = upd H T (.tup [.int i, .str (S [c])]) ∧ l[i]? = some c, fun i _ => l.length ≤ i⟩
theorem obj_fields {h : Heap} {b : Addr} {o : Obj} {vs : Array Value} (e : h.get? b = some o) (d : o.data = .fields vs) : ∃ o, h.get? b = some o ∧ ∀ v, o.data ≠ .cell v := ⟨o, e, fun v z => by rw [d] at z; cases z⟩
theorem turn_enumL {P : Program} {w : World} {K : Frag} {elts : List Expr} {x1} {pos : Pos} (e it l : Addr) (hne : e ≠ it) : Turn P w K (.Tuple elts x1 pos) (Ite K l) [e, it] e (fun i h => (∃ old, IsEnum h e it i old) ∧ h.IsListIter it l i) where
  mem := by simp
  obj := fun i h st b hb => by
    obtain ⟨⟨old, he⟩, o, ho, hc, hd⟩ := st
    rcases List.mem_cons.mp hb with rfl | hb
    · exact obj_fields he rfl
    · rw [List.mem_singleton.mp hb]
      exact obj_fields ho hd
  keep := fun i h h' st k => by
    obtain ⟨⟨old, he⟩, o, ho, r⟩ := st
    exact ⟨⟨old, k e (by simp) _ he⟩, o, k it (by simp) o ho, r⟩
  item := by
    intro X hP hw hK hc i pins s σ H E I hf st hg
    subst hP hw hK
    obtain ⟨⟨old, he⟩, hit⟩ := st
    obtain ⟨xs, x, hq, hx⟩ := hg
    obtain ⟨its, rv, pl, hz⟩ := I.list hq
    obtain ⟨u, hu, ru⟩ := rv.get hx
    have hT : H s.heap.objs.size = none := I.hok.fresh (Nat.le_refl _)
    have elt : e < s.heap.objs.size := Heap.lt_size he
    refine wpAny_pyNext_enum_item he hit pl.isList (x := u) (by simpa using hu) hne fun h' ho hit' hTup hsz hk => ⟨_, rfl, ?_⟩
    refine wpAny_letOwnedTupleGo_enum ho fun h'' he'' hs'' => ⟨.ref s.heap.objs.size, _, ?_, rfl, ⟨s.heap.objs.size, x, rfl, hT, rfl, fun ys hy => by rw [I.list_inj hy hq]; exact hx⟩, ⟨⟨_, by simpa using he''⟩, hit'.extBut hs''.extBut (Ne.symm hne)⟩, fun b hb => ?_⟩
    · show Inv X pins σ _ { s with heap := h'', toks := s.toks + 1 }
      refine I.turnT (ch := [e, it]) (us := [.int i s.toks, u]) hf (fun b o hb q => ?_) (Nat.le_refl _) ⟨_, hs''.extBut _ _ (Nat.ne_of_gt elt) hTup, rfl, _, rfl⟩ (.cons ⟨_, rfl⟩ (.cons ru .nil)) (by show 2 ≤ sizeLine; decide)
      have h1 : b ≠ e := fun z => hb (by simp [z])
      have h2 : b ≠ it := fun z => hb (by simp [z])
      exact hs''.extBut _ _ h1 (hk b o h1 h2 q)
    · have q := hf b hb
      rw [upd_ne (fun z => ?_)]
      · exact q.1
      · obtain ⟨o, ho⟩ : ∃ o, s.heap.get? b = some o := by
          rcases List.mem_cons.mp hb with rfl | hb
          · exact ⟨_, he⟩
          · rw [List.mem_singleton.mp hb]
            obtain ⟨o, ho, _⟩ := hit
            exact ⟨o, ho⟩
        exact absurd (Heap.lt_size ho) (by rw [z]; exact Nat.lt_irrefl _)
  done := by
    intro X hP hw hK hc i pins s σ H E I hf st hg
    subst hP hw hK
    obtain ⟨⟨old, he⟩, hit⟩ := st
    obtain ⟨xs, hq, hl⟩ := hg
    obtain ⟨its, rv, pl, hz⟩ := I.list hq
    refine wpAny_pyNext_enum_end (I.ok.hd hc) he hit pl.isList (by have := rv.length; simp; omega) fun h' hx => ⟨rfl, ?_⟩
    exact I.turnL (t' := s.toks) (ch := [e, it]) hf fun b o hb q => hx b o (fun z => hb (by simp [z])) q
  self := fun A i s Q E st h => by
    obtain ⟨⟨old, he⟩, _⟩ := st
    exact wpAny_pyIter_enum he h
theorem turn_enumS {P : Program} {w : World} {K : Frag} {elts : List Expr} {x1} {pos : Pos} (e it : Addr) (l : List Nat) (t : Tok) (hne : e ≠ it) : Turn P w K (.Tuple elts x1 pos) (Ites l) [e, it] e (fun i h => (∃ old, IsEnum h e it i old) ∧ h.IsStrIter it "str_ascii_iterator" (S l) t i) where
  mem := by simp
  obj := fun i h st b hb => by
    obtain ⟨⟨old, he⟩, o, ho, hc, hd⟩ := st
    rcases List.mem_cons.mp hb with rfl | hb
    · exact obj_fields he rfl
    · rw [List.mem_singleton.mp hb]
      exact obj_fields ho hd
  keep := fun i h h' st k => by
    obtain ⟨⟨old, he⟩, o, ho, r⟩ := st
    exact ⟨⟨old, k e (by simp) _ he⟩, o, k it (by simp) o ho, r⟩
  item := by
    intro X hP hw hK hc i pins s σ H E I hf st hg
    subst hP hw hK
    obtain ⟨⟨old, he⟩, hit⟩ := st
    have hg' : i < l.length := hg
    have hT : H s.heap.objs.size = none := I.hok.fresh (Nat.le_refl _)
    have elt : e < s.heap.objs.size := Heap.lt_size he
    have hd : X.A.in1.handled = none := I.ok.hd hc
    refine wpAny_pyNext_enum_itemD (Draws.strAscii hd it (S l) t) he hit (by simpa [S] using hg') hne (fun z => hne (by simpa using z)) fun u h' tk hP ho hit' hTup hsz hk => ⟨_, rfl, ?_⟩
    obtain ⟨c, tc, hcx, rfl⟩ := hP
    have hcl : l[i]? = some c := by
      rw [← hcx]
      simp [S]
    refine wpAny_letOwnedTupleGo_enum ho fun h'' he'' hs'' => ⟨.ref s.heap.objs.size, _, ?_, rfl, ⟨s.heap.objs.size, c, rfl, hT, rfl, hcl⟩, ⟨⟨_, by simpa using he''⟩, ?_⟩, fun b hb => ?_⟩
    · show Inv X pins σ _ { s with heap := h'', toks := tk + 1 }
      refine I.turnT (ch := [e, it]) (us := [.int i tk, .str ⟨#[c]⟩ tc]) hf (fun b o hb q => ?_) (Nat.le_refl _) ⟨_, hs''.extBut _ _ (Nat.ne_of_gt elt) hTup, rfl, _, rfl⟩ (.cons ⟨_, rfl⟩ (.cons ⟨_, rfl⟩ .nil)) (by show 2 ≤ sizeLine; decide)
      have h1 : b ≠ e := fun z => hb (by simp [z])
      have h2 : b ≠ it := fun z => hb (by simp [z])
      exact hs''.extBut _ _ h1 (hk b o h1 h2 q)
    · obtain ⟨o, ho', r⟩ := hit'
      exact ⟨o, hs''.extBut _ _ (Ne.symm hne) ho', r⟩
    · have q := hf b hb
      rw [upd_ne (fun z => ?_)]
      · exact q.1
      · obtain ⟨o, ho⟩ : ∃ o, s.heap.get? b = some o := by
          rcases List.mem_cons.mp hb with rfl | hb
          · exact ⟨_, he⟩
          · rw [List.mem_singleton.mp hb]
            obtain ⟨o, ho, _⟩ := hit
            exact ⟨o, ho⟩
        exact absurd (Heap.lt_size ho) (by rw [z]; exact Nat.lt_irrefl _)
  done := by
    intro X hP hw hK hc i pins s σ H E I hf st hg
    subst hP hw hK
    obtain ⟨⟨old, he⟩, hit⟩ := st
    have hd : X.A.in1.handled = none := I.ok.hd hc
    have hg' : l.length ≤ i := hg
    have hT : s.TypeIs (.ref e) "enumerate" := ⟨_, he, rfl⟩
    unfold pyNext
    refine wpAny_bind (wpAny_attempt (wpAny_callSpecial?_slot (name := Str.ofString "__next__") hT F.slot_enumerate_next
      (wpAny_call_entry F.slot_enumerate_next hT F.entry_enumerate_next ?_ (F.args_enumerate_next_1 _))))
    show wpAny _ _ (field (.ref e) 2 >>= _) _ _ _
    refine wpAny_bind (wpAny_field he rfl (x := .ref it) rfl ?_)
    refine wpAny_bind (wpAny_nextOf_ascii_end hd hit (by simp [S]; exact hg') fun h' x he' hx' => ?_)
    obtain ⟨o, ho, hc⟩ := hx'
    refine wpAny_bind (wpAny_isInstance (T := "StopIteration") (b := true) ⟨o, ho, hc⟩ isSubtype_stop ?_)
    exact wpAny_pure ⟨rfl, I.turnL (t' := s.toks) (ch := [e, it]) hf fun b o hb q => he' b o (fun z => hb (by simp [z])) q⟩
  self := fun A i s Q E st h => by
    obtain ⟨⟨old, he⟩, _⟩ := st
    exact wpAny_pyIter_enum he h
section
variable {X : Cx} {elts : List Expr} {x1 : Nat} {tpos : Pos}
def iEnumL (K : Frag) (ta : TA) : TI := fun σ H R => ta σ H fun vs H1 => ∃ a, vs = [.ref a] ∧ (∃ xs, SqL K H1 a xs) ∧ R (Ite K a) H1
def iEnumS (ta : TA) : TI := fun σ H R => ta σ H fun vs H1 => ∃ l, vs = [.str (S l)] ∧ ascii l = true ∧ R (Ites l) H1
theorem strIter_ascii {l : List Nat} (h : ascii l = true) : strIterType (S l) = "str_ascii_iterator" := by
  unfold strIterType
  rw [if_pos]
  unfold ascii at h
  rw [List.all_eq_true] at h
  simp [S]
  intro i hi
  simpa using h i hi
theorem pi_enumL {a : Expr} {ta : TA} {p pos : Pos} (hg : Gl X "enumerate") (hm : X.mg "enumerate" = none) (ha : PA X [a] ta) (hs : starEach [a] X.env = [(false, eval a X.env)] := by exact star1 rfl) : PI X (.Tuple elts x1 tpos) (.Call (.Name "enumerate" p) [a] [] pos) (iEnumL X.K ta) := by
  intro pins s σ H R I h
  refine Call_ (ld_blt I hg hm boot_enumerate (PyProof.Rows.callWith_type1 (thn (ha pos pins s σ H _ I h) fun us s1 ⟨vs, H1, I1, r1, q1⟩ => ?_) hs rfl))
  obtain ⟨l, e, ⟨xs, hq⟩, q⟩ := q1
  subst e
  obtain ⟨u, rfl, ru⟩ := vals1 r1
  cases ru
  obtain ⟨its, rv, pl, hz⟩ := I1.list hq
  refine call_enumerate_list pl.isList fun h' he hit hsz hk => wpAny_pyIter_enum he ?_
  refine ⟨s1.heap.objs.size + 1, [s1.heap.objs.size + 1, s1.heap.objs.size], _, _, H1, rfl, I1.kept (t' := s1.toks) hk, turn_enumL (s1.heap.objs.size + 1) s1.heap.objs.size l (Nat.succ_ne_self _), ⟨⟨_, he⟩, hit⟩, fun b hb => ?_, q⟩
  have hb' : s1.heap.objs.size ≤ b := by
    rcases List.mem_cons.mp hb with rfl | hb
    · exact Nat.le_succ _
    · rw [List.mem_singleton.mp hb]; exact Nat.le_refl _
  exact I1.fpOk hb' (I1.hok.fresh hb')
theorem pi_enumS {a : Expr} {ta : TA} {p pos : Pos} (hg : Gl X "enumerate") (hm : X.mg "enumerate" = none) (ha : PA X [a] ta) (hs : starEach [a] X.env = [(false, eval a X.env)] := by exact star1 rfl) : PI X (.Tuple elts x1 tpos) (.Call (.Name "enumerate" p) [a] [] pos) (iEnumS ta) := by
  intro pins s σ H R I h
  refine Call_ (ld_blt I hg hm boot_enumerate (PyProof.Rows.callWith_type1 (thn (ha pos pins s σ H _ I h) fun us s1 ⟨vs, H1, I1, r1, q1⟩ => ?_) hs rfl))
  obtain ⟨l, e, hl, q⟩ := q1
  subst e
  obtain ⟨u, rfl, t, rfl⟩ := vals1 r1
  refine call_enumerate_str fun h' he hit hsz hk => wpAny_pyIter_enum he ?_
  rw [strIter_ascii hl] at hit
  refine ⟨s1.heap.objs.size + 1, [s1.heap.objs.size + 1, s1.heap.objs.size], _, _, H1, rfl, I1.kept (t' := s1.toks) hk, turn_enumS (s1.heap.objs.size + 1) s1.heap.objs.size l t (Nat.succ_ne_self _), ⟨⟨_, he⟩, hit⟩, fun b hb => ?_, q⟩
  have hb' : s1.heap.objs.size ≤ b := by
    rcases List.mem_cons.mp hb with rfl | hb
    · exact Nat.le_succ _
    · rw [List.mem_singleton.mp hb]; exact Nat.le_refl _
  exact I1.fpOk hb' (I1.hok.fresh hb')
end
end L2
namespace L2
open PySem PySem.Spec PyProof.Rows
def rW (K : Frag) (P : Pt) : RR := fun _ H F as v d => Rp K F as v d ∨ ∃ a xs ds, v = .ref a ∧ d = .lst ds ∧ H a = some (.lst xs) ∧ a ∉ as ∧ P a ∧ Rps K F as xs ds
def WE (X : Cx) (md : List Md) (P : Pt) (e : Expr) (m : M D) : Prop := PE X e (tM X.K X.mg md P (rW X.K P) m)
section
variable {X : Cx} {md : List Md} {P : Pt} {R : RR}
theorem we_ve {e : Expr} {m : M D} (h : VE X md P e m) : WE X md P e m := h.imp fun σ H Q q => by
  obtain ⟨ρ, O, F, as, d, O', r, s, e, k⟩ := q
  exact ⟨ρ, O, F, as, d, O', r, s, e, fun v H' F' as' g r' hv => k v H' F' as' g r' (.inl hv)⟩
theorem we_var (i : Nat) {x : Str} {pos : Pos} (hm : md[i]? = some .s := by rfl) (hN : X.N[i]? = some x := by rfl) (hv : Vis X.env.scope x := by first | exact Or.inl rfl | exact Or.inr (Or.inl rfl) | exact Or.inr (Or.inr rfl))
    (hd : (x == ("__debug__" : Str)) = false := by decide) (hcd : (x == ("__classdict__" : Str)) = false := by decide) : WE X md P (.Name x pos) (mVar i) := by
  refine (pe_var (i := i) hN hv hd hcd).imp fun σ H Q h => ?_
  obtain ⟨ρ, O, F, as, d, O', r, s, e, k⟩ := h
  obtain ⟨e1, rfl⟩ := mVar_ok e
  obtain ⟨v, h2, h3⟩ := s.sl i .s d hm e1
  exact ⟨v, h2, k v H F as Gr.refl r h3⟩
theorem jok_w {K : Frag} {mg : Str → Option Value} {N : Addr → Prop} {H F : Hp} {as : List Addr} {v : V} {ds : List D} (hv : rW K P N H F as v (.lst ds)) :
    ∃ a xs, v = .ref a ∧ Rps K F as xs ds ∧ ∀ (H2 F2 : Hp) (as2 : List Addr), GrS P H F as H2 F2 as2 → (∃ O, RlO K mg O H2 F2 as2) → RdK K H2 a xs := by
  rcases hv with hv | ⟨a, xs, ds', rfl, e, e3, e4, e5, e6⟩
  · obtain ⟨a, xs, rfl, h1, h2⟩ := hv.unL
    exact ⟨a, xs, rfl, h2, fun H2 F2 as2 g ⟨O, r⟩ => (h1.mono g.ff).mono r.fh⟩
  · cases e
    exact ⟨a, xs, rfl, e6, fun H2 F2 as2 g _ => .inl (.inl (g.fr _ _ e5 e3 e4 rfl))⟩
theorem vi_list {tg e : Expr} {m : M D} (h : WE X md P e m) : VI X md P tg e (mList m) := (pi_list h).imp fun σ H Q q => by
  obtain ⟨ρ, O, F, as, ds, O', r, s, e, k⟩ := q
  obtain ⟨d, O1, e1, e⟩ := Res.bind_ok e
  cases d with
  | lst es =>
    cases e
    refine ⟨ρ, _, F, as, _, _, r, s, e1, fun v H1 F1 as1 g1 r1 hv => ?_⟩
    obtain ⟨a, xs, rfl, h1, h2⟩ := jok_w (mg := X.mg) hv
    exact ⟨a, rfl, ⟨xs, (h2 H1 F1 as1 GrS.refl ⟨_, r1⟩).sq⟩, k _ H1 F1 as1 g1 r1 (jok_list h1 h2)⟩
  | _ => cases e
theorem vi_tup {tg e : Expr} {m : M D} (h : VE X md P e m) : VI X md P tg e (mTupI m) := (pi_tup h).imp fun σ H Q q => by
  obtain ⟨ρ, O, F, as, ds, O', r, s, e, k⟩ := q
  obtain ⟨d, O1, e1, e⟩ := Res.bind_ok e
  cases d with
  | tup es =>
    cases e
    refine ⟨ρ, _, F, as, _, _, r, s, e1, fun v H1 F1 as1 g1 r1 hv => ?_⟩
    obtain ⟨a, xs, rfl, h1, h2⟩ := Rp.unT hv
    have hp : ∀ (H2 F2 : Hp) (as2 : List Addr), GrS P H1 F1 as1 H2 F2 as2 → (∃ O, RlO X.K X.mg O H2 F2 as2) → SqT X.K H2 a xs := fun H2 F2 as2 g ⟨O, r⟩ => Same.seqT r.fh (Same.seqT g.ff h1)
    refine ⟨a, rfl, ⟨xs, hp H1 F1 as1 GrS.refl ⟨_, r1⟩⟩, k _ H1 F1 as1 g1 r1 ⟨fun i d H2 F2 as2 g r e => ?_, fun H2 F2 as2 g r => ⟨xs, hp H2 F2 as2 g r, by rw [h2.length]; exact Nat.le_refl _⟩⟩⟩
    obtain ⟨x, h3, h4⟩ := h2.get' e
    have q := hp H2 F2 as2 g r
    refine ⟨⟨xs, x, q, h3⟩, fun y H3 hy => ?_⟩
    obtain ⟨rfl, hy⟩ := hy
    have := hy xs q
    rw [h3] at this
    cases this
    exact ⟨F2, Gr.refl, fun _ r => r, h4.grS g⟩
  | _ => cases e
def signsD (l : List Nat) : List D := l.map fun c => .str [c]
def mStrI (m : M D) : M (List D) := fun ρ O => (m ρ O).bind fun d O1 => match d with
  | .str l => if ascii l = true then .ok (signsD l) O1 else .no
  | _ => .no
theorem jok_same {K : Frag} {mg : Str → Option Value} {J : It} {ds : List D} {H F : Hp} {as : List Addr} (h1 : ∀ (i : Nat) (d : D) (H2 : Hp), ds[i]? = some d → J.go i H2 ∧ ∀ x H3, J.yld i H2 x H3 → H3 = H2 ∧ ∀ K F as, Rp K F as x d) (h2 : ∀ H2, J.stop ds.length H2) : JOk K mg P J ds H F as :=
  ⟨fun i d H2 F2 as2 _ _ e => ⟨(h1 i d H2 e).1, fun x H3 y => by
    obtain ⟨rfl, hx⟩ := (h1 i d H2 e).2 x H3 y
    exact ⟨F2, Gr.refl, fun _ r => r, hx _ _ _⟩⟩, fun H2 _ _ _ _ => h2 H2⟩
theorem vi_str {tg e : Expr} {m : M D} (h : SE X md P e m) : VI X md P tg e (mStrI m) := (pi_str h).imp fun σ H Q q => by
  obtain ⟨ρ, O, F, as, ds, O', r, s, e, k⟩ := q
  obtain ⟨d, O1, e1, e⟩ := Res.bind_ok e
  cases d with
  | str l =>
    dsimp only at e
    split at e
    · rename_i hl
      cases e
      refine ⟨ρ, _, F, as, _, _, r, s, e1, fun v H1 F1 as1 g1 r1 hv => ?_⟩
      refine ⟨l, (Sv.rp hv rfl).unS, hl, k _ H1 F1 as1 g1 r1 (jok_same (fun i d H2 e => ?_) fun H2 => by simp [signsD, Its])⟩
      unfold signsD at e
      rw [List.getElem?_map] at e
      cases q : l[i]? with
      | none => rw [q] at e; cases e
      | some c =>
        rw [q] at e
        cases e
        refine ⟨(List.getElem?_eq_some_iff.mp q).1, fun x H3 y => ?_⟩
        obtain ⟨e1, c', e2, rfl⟩ := y
        rw [q] at e2
        cases e2
        exact ⟨e1, fun _ _ _ => Rp.str⟩
    · cases e
  | _ => cases e
def rangeD (lo : Int) (n : Nat) : List D := (List.range n).map fun (k : Nat) => .int (lo + (k : Int))
def mRng1 (m : M (List D)) : M (List D) := fun ρ O => (m ρ O).bind fun ds O1 => match ds with
  | [.int j] => if j ≤ 1000000000 ∧ -1000000000 ≤ j then .ok (rangeD 0 j.toNat) O1 else .no
  | _ => .no
theorem jok_range {K : Frag} {mg : Str → Option Value} {lo : Int} {n : Nat} {H F : Hp} {as : List Addr} : JOk K mg P (Itr lo n) (rangeD lo n) H F as := jok_same (fun i d H2 e => by
  unfold rangeD at e
  rw [List.getElem?_map] at e
  by_cases hi : i < n
  · rw [List.getElem?_range hi] at e
    cases e
    refine ⟨hi, fun x H3 y => ?_⟩
    obtain ⟨e1, rfl⟩ := y
    exact ⟨e1, fun _ _ _ => Rp.int⟩
  · rw [List.getElem?_eq_none (by simpa using hi)] at e
    cases e) fun H2 => by simp [rangeD, Itr]
theorem ArgsR.one {K : Frag} {H F : Hp} {as : List Addr} {m : Md} {vs : List V} {d : D} (h : ArgsR K H F as [m] vs [d]) : ∃ v, vs = [v] ∧ rA K m (fun _ => True) H F as v d := by
  cases vs with
  | nil => exact h.elim
  | cons v vs =>
    cases vs with
    | nil => exact ⟨v, rfl, h.1⟩
    | cons u us => exact h.2.elim
theorem vi_range1 {tg a : Expr} {p pos : Pos} {m : M (List D)} (hm : X.mg "range" = none) (ha : AE X md P [.s] [a] m) (hg : Gl X "range" := by rfl) (hs : starEach [a] X.env = [(false, eval a X.env)] := by exact star1 rfl) : VI X md P tg (.Call (.Name "range" p) [a] [] pos) (mRng1 m) := (pi_range1 hg hm ha hs).imp fun σ H Q q => by
  obtain ⟨ρ, O, F, as, ds, O', r, s, e, k⟩ := q
  obtain ⟨es, O1, e1, e⟩ := Res.bind_ok e
  split at e
  · rename_i j
    split at e
    · rename_i hj
      cases e
      refine ⟨ρ, _, F, as, _, _, r, s, e1, fun vs H1 F1 as1 g1 r1 hv => ?_⟩
      obtain ⟨v, rfl, hv1⟩ := hv.one
      have := (Sv.rp hv1 rfl).unI
      subst this
      exact ⟨j, rfl, by omega, by omega, k _ H1 F1 as1 g1 r1 jok_range⟩
    · cases e
  · cases e
def enumD : Nat → List D → List D
  | _, [] => []
  | k, d :: ds => .tup [.int k, d] :: enumD (k + 1) ds
theorem enumD_len : ∀ (k : Nat) (ds : List D), (enumD k ds).length = ds.length
  | _, [] => rfl
  | k, d :: ds => by simp [enumD, enumD_len (k + 1) ds]
theorem enumD_get : ∀ (k : Nat) (ds : List D) (i : Nat), (enumD k ds)[i]? = (ds[i]?).map fun d => .tup [.int ((k + i : Nat) : Int), d]
  | k, [], i => by simp [enumD]
  | k, d :: ds, 0 => by simp [enumD]
  | k, d :: ds, i + 1 => by
    rw [enumD, List.getElem?_cons_succ, List.getElem?_cons_succ, enumD_get (k + 1) ds i]
    congr 1
    funext d
    congr 3
    omega
theorem pair_new {K : Frag} {mg : Str → Option Value} {H2 F2 : Hp} {as2 : List Addr} {T : Addr} {xs : List V} {ds : List D} (hr : ∃ O, RlO K mg O H2 F2 as2) (hT : H2 T = none) (hx : Rps K F2 as2 xs ds) :
    ∃ F3, Gr H2 F2 as2 (upd H2 T (.tup xs)) F3 as2 ∧ (∀ O, RlO K mg O H2 F2 as2 → RlO K mg O (upd H2 T (.tup xs)) F3 as2) ∧ Rp K F3 as2 (.ref T) (.tup ds) := by
  obtain ⟨O, r⟩ := hr
  have hF := r.frF hT
  have ff : Same F2 (upd F2 T (.tup xs)) := fun b u q => by rw [upd_ne (ne_of_none q hF)]; exact q
  exact ⟨upd F2 T (.tup xs), (Gr.lay hT).frz hT hF, fun O' r' => (r'.lay hT).frz upd_same hF (fun z => r'.all z hT) rfl, Rp.mkT (.inl upd_same) (Rps.mono ff (fun _ _ z => z) _ hx)⟩
def mEnumL (m : M D) : M (List D) := fun ρ O => (m ρ O).bind fun d O1 => match d with
  | .lst ds => .ok (enumD 0 ds) O1
  | _ => .no
def mEnumS (m : M D) : M (List D) := fun ρ O => (m ρ O).bind fun d O1 => match d with
  | .str l => if ascii l = true then .ok (enumD 0 (signsD l)) O1 else .no
  | _ => .no
variable {elts : List Expr} {x1 : Nat} {tpos : Pos}
theorem vi_enumL {a : Expr} {p pos : Pos} {m : M D} (hm : X.mg "enumerate" = none) (h : WE X md P a m) (hg : Gl X "enumerate" := by rfl) (hs : starEach [a] X.env = [(false, eval a X.env)] := by exact star1 rfl) (hs' : starEach [a] X.env = (false, eval a X.env) :: starEach [] X.env := by exact starC rfl) :
    VI X md P (.Tuple elts x1 tpos) (.Call (.Name "enumerate" p) [a] [] pos) (mEnumL m) := (pi_enumL hg hm (pa_cons h pa_nil hs') hs).imp fun σ H Q q => by
  obtain ⟨ρ, O, F, as, ds, O', r, s, e, k⟩ := q
  obtain ⟨d, O1, e1, e⟩ := Res.bind_ok e
  cases d with
  | lst es =>
    cases e
    refine ⟨ρ, _, F, as, _, _, r, s, e1, fun v H1 F1 as1 g1 r1 hv => ?_⟩
    obtain ⟨a, xs, rfl, h1, h2⟩ := jok_w (mg := X.mg) hv
    refine ⟨a, rfl, ⟨xs, (h2 H1 F1 as1 GrS.refl ⟨_, r1⟩).sq⟩, k _ H1 F1 as1 g1 r1 ⟨fun i d H2 F2 as2 g r e => ?_, fun H2 F2 as2 g r => ⟨xs, (h2 H2 F2 as2 g r).sq, by rw [enumD_len, h1.length]; exact Nat.le_refl _⟩⟩⟩
    rw [enumD_get] at e
    cases q : es[i]? with
    | none => rw [q] at e; cases e
    | some y =>
      rw [q] at e
      cases e
      obtain ⟨x, h3, h4⟩ := h1.get' q
      have hq := h2 H2 F2 as2 g r
      refine ⟨⟨xs, x, hq.sq, h3⟩, fun z H3 hz => ?_⟩
      obtain ⟨T, x', rfl, hT, rfl, hx'⟩ := hz
      have := hx' xs hq.sq
      rw [h3] at this
      cases this
      rw [Nat.zero_add]
      exact pair_new r hT (Rps.cons Rp.int (Rps.cons (h4.grS g) Rps.nil))
  | _ => cases e
theorem vi_enumS {a : Expr} {p pos : Pos} {m : M D} (hm : X.mg "enumerate" = none) (h : SE X md P a m) (hg : Gl X "enumerate" := by rfl) (hs : starEach [a] X.env = [(false, eval a X.env)] := by exact star1 rfl) (hs' : starEach [a] X.env = (false, eval a X.env) :: starEach [] X.env := by exact starC rfl) :
    VI X md P (.Tuple elts x1 tpos) (.Call (.Name "enumerate" p) [a] [] pos) (mEnumS m) := (pi_enumS hg hm (pa_cons h pa_nil hs') hs).imp fun σ H Q q => by
  obtain ⟨ρ, O, F, as, ds, O', r, s, e, k⟩ := q
  obtain ⟨d, O1, e1, e⟩ := Res.bind_ok e
  cases d with
  | str l =>
    dsimp only at e
    split at e
    · rename_i hl
      cases e
      refine ⟨ρ, _, F, as, _, _, r, s, e1, fun v H1 F1 as1 g1 r1 hv => ?_⟩
      refine ⟨l, by rw [(Sv.rp hv rfl).unS], hl, k _ H1 F1 as1 g1 r1 ⟨fun i d H2 F2 as2 g r e => ?_, fun H2 F2 as2 g r => ?_⟩⟩
      · rw [enumD_get] at e
        unfold signsD at e
        rw [List.getElem?_map] at e
        cases q : l[i]? with
        | none => rw [q] at e; cases e
        | some c =>
          rw [q] at e
          cases e
          refine ⟨(List.getElem?_eq_some_iff.mp q).1, fun z H3 hz => ?_⟩
          obtain ⟨T, c', rfl, hT, rfl, hc'⟩ := hz
          rw [q] at hc'
          cases hc'
          rw [Nat.zero_add]
          exact pair_new r hT (Rps.cons Rp.int (Rps.cons Rp.str Rps.nil))
      · show l.length ≤ _
        rw [enumD_len]
        simp [signsD]
    · cases e
  | _ => cases e
def strsD : List D → Option (List (List Nat))
  | [] => some []
  | .str l :: ds => (strsD ds).map (l :: ·)
  | _ => none
theorem Rps.strs {K : Frag} {F : Hp} {as : List Addr} : ∀ {ds : List D} {xs : List V} {ls : List (List Nat)}, Rps K F as xs ds → strsD ds = some ls → xs = ls.map fun l => V.str (S l)
  | [], xs, bs, h, e => by cases e; rw [h.un0]; rfl
  | d :: ds, xs, bs, h, e => by
    obtain ⟨x, r, rfl, h2, h3⟩ := h.un
    cases d with
    | str b =>
      unfold strsD at e
      cases q : strsD ds with
      | none => rw [q] at e; cases e
      | some cs =>
        rw [q] at e
        cases e
        rw [h2.unS, Rps.strs h3 q]
        rfl
    | _ => cases e
def mJoin (m : M D) : M D := fun ρ O => (m ρ O).bind fun d O1 => match deref O1 d with
  | .lst ds => match strsD ds with
    | some ls => if (ls.map List.length).sum ≤ 1000000 then .ok (.str ls.flatten) O1 else .no
    | none => .no
  | _ => .no
theorem oe_join {e : Expr} {j : Nat} {p apos cpos : Pos} {m : M D} (h : SE X md P e m) {x : Str} (hx : x = S [] := by decide +kernel)
    (hfew : ((backTo cpos (starEach [e] X.env)).all (fun x => !x.1) && (backToKw cpos (keywordEach [] X.env)).all (fun x => x.1.isSome) && decide ([e].length + ([] : List Keyword).length + (if ([] : List Keyword).isEmpty then 0 else 1) < 30)) = true := by rfl)
    (hline : (apos.endLine == cpos.line) = true := by rfl) (hs : starEach [e] X.env = (false, eval e X.env) :: starEach [] X.env := by exact starC rfl) (hbase : attributeBase (.Constant (.str x) j p) "join" X.env (eval (.Constant (.str x) j p) X.env) = eval (.Constant (.str x) j p) X.env := by rfl) (hplain : (backTo cpos (starEach [] X.env)).any (·.1) = false := by exact starAny rfl) :
    OE X md P (.Call (.Attribute (.Constant (.str x) j p) "join" apos) [e] [] cpos) (mJoin m) :=
  (pe_bm PySem.F.plainAttrs_str PySem.F.slot_str_join PySem.F.type_str_join (mt_joinK X.K) (pe_str (x := x)) (pa_cons h pa_nil hs) hbase hfew hline hs hplain).imp fun σ H Q q => by
    obtain ⟨ρ, O, F, as, d, O', r, s, e, k⟩ := q
    obtain ⟨y, O1, e1, e⟩ := Res.bind_ok e
    cases ed : deref O1 y with
    | lst ds =>
      rw [ed] at e
      dsimp only at e
      cases es : strsD ds with
      | none => rw [es] at e; cases e
      | some ls =>
        rw [es] at e
        dsimp only at e
        split at e
        · rename_i hz
          cases e
          refine ⟨rfl, ρ, _, F, as, _, _, r, s, e1, fun v H1 F1 as1 g1 r1 hv => ?_⟩
          have q := Sv.lk hv r1
          rw [ed] at q
          obtain ⟨a, xs, rfl, h1, h2⟩ := q.list r1.fh
          refine ⟨a, ls, by rw [hx], rfl, ?_, hz, k _ H1 F1 as1 g1 r1 (.inl ⟨rfl, Rp.str⟩)⟩
          rw [← h2.strs es]
          exact h1.sq
        · cases e
    | _ => rw [ed] at e; cases e
def mStarts (mo m : M D) : M D := fun ρ O => (mo ρ O).bind fun a O1 => (m ρ O1).bind fun b O2 => match a, b with
  | .str l, .str n => .ok (.bl (decide (l.take n.length = n))) O2
  | _, _ => .no
theorem oe_starts {o e : Expr} {apos cpos : Pos} {mo m : M D} (ho : VE X md P o mo) (h : VE X md P e m)
    (hbase : attributeBase o "startswith" X.env (eval o X.env) = eval o X.env := by rfl)
    (hfew : ((backTo cpos (starEach [e] X.env)).all (fun x => !x.1) && (backToKw cpos (keywordEach [] X.env)).all (fun x => x.1.isSome) && decide ([e].length + ([] : List Keyword).length + (if ([] : List Keyword).isEmpty then 0 else 1) < 30)) = true := by rfl)
    (hline : (apos.endLine == cpos.line) = true := by rfl) (hs : starEach [e] X.env = (false, eval e X.env) :: starEach [] X.env := by exact starC rfl) (hplain : (backTo cpos (starEach [] X.env)).any (·.1) = false := by exact starAny rfl) :
    OE X md P (.Call (.Attribute o "startswith" apos) [e] [] cpos) (mStarts mo m) :=
  (pe_bm PySem.F.plainAttrs_str PySem.F.slot_str_startswith PySem.F.type_str_startswith mt_starts ho (pa_cons h pa_nil hs) hbase hfew hline hs hplain).imp fun σ H Q q => by
    obtain ⟨ρ, O, F, as, d, O', r, s, e, k⟩ := q
    obtain ⟨a, O1, e1, e⟩ := Res.bind_ok e
    obtain ⟨b, O2, e2, e⟩ := Res.bind_ok e
    split at e
    · cases e
      refine ⟨ρ, _, F, as, _, _, r, s, e1, fun v H1 F1 as1 g1 r1 hv => ?_⟩
      cases Rp.unS hv
      refine ⟨rfl, ρ, _, F1, as1, _, _, r1, s.step g1, e2, fun u H2 F2 as2 g2 r2 hu => ?_⟩
      cases Rp.unS hu
      exact ⟨_, _, rfl, rfl, k _ H2 F2 as2 (g1.trans g2) r2 (.inl ⟨rfl, Rp.bl⟩)⟩
    · cases e
end
end L2
namespace L2
open PySem PySem.Spec PyProof.Rows
section
variable {K : Frag} {mg : Str → Option Value} {md : List Md} {P : Pt} {ρ : DEnv} {σ : St} {H F : Hp} {as : List Addr} {O : Store} {i : Nat} {a : Addr} {xs xs' : List V} {ds ds' : List D}
theorem SlO.own (s : SlO K md P ρ σ H F as) (hm : md[i]? = some .o) (hρ : ρ[i]? = some (some (.lst ds))) : ∃ a xs, σ[i]? = some (some (.ref a)) ∧ H a = some (.lst xs) ∧ F a = none ∧ a ∉ as ∧ ¬ P a ∧ Rps K F as xs ds := by
  obtain ⟨v, h1, h2⟩ := s.sl i .o _ hm hρ
  rcases h2 with ⟨h2, _⟩ | ⟨a, xs, es, rfl, e2, e3, e0, e4, e5, e6⟩
  · cases h2
  · cases e2
    exact ⟨a, xs, h1, e3, e0, e4, e5, e6⟩
theorem SlO.mut (s : SlO K md P ρ σ H F as) (hm : md[i]? = some .o) (hρ : ρ[i]? = some (some (.lst ds))) (hσ : σ[i]? = some (some (.ref a))) (hF : F a = none) (ha : a ∉ as) (hP : ¬ P a) (r : Rps K F as xs' ds') : SlO K md P (ρ.set i (some (.lst ds'))) σ (upd H a (.lst xs')) F as := by
  have hi : i < md.length := (List.getElem?_eq_some_iff.mp hm).1
  refine ⟨s.len, by rw [List.length_set]; exact s.len', fun c p => ?_, fun j m d e1 e2 => ?_, fun j k c es fs h1 h2 h3 h4 h5 h6 => ?_, fun x hx => ?_⟩
  · have := s.pd c p
    unfold upd
    split
    · exact fun z => nomatch z
    · exact this
  · by_cases h : i = j
    · subst h
      rw [hm] at e1; cases e1
      rw [List.getElem?_set_self (by rw [s.len']; exact hi)] at e2
      cases e2
      exact ⟨_, hσ, .inr ⟨a, xs', ds', rfl, rfl, upd_same, hF, ha, hP, r⟩⟩
    · rw [List.getElem?_set_ne h] at e2
      obtain ⟨v, q1, q2⟩ := s.sl j m d e1 e2
      refine ⟨v, q1, ?_⟩
      cases m with
      | v => exact q2
      | s =>
        rcases q2 with q2 | ⟨c, ys, es, z1, z2, z3, z4, z5, z6⟩
        · exact .inl q2
        · exact .inr ⟨c, ys, es, z1, z2, by rw [upd_ne (fun z => hP (by rw [← z]; exact z5))]; exact z3, z4, z5, z6⟩
      | o =>
        rcases q2 with q2 | ⟨c, ys, es, z1, z2, z3, z0, z4, z5, z6⟩
        · exact .inl q2
        · refine .inr ⟨c, ys, es, z1, z2, ?_, z0, z4, z5, z6⟩
          rw [upd_ne]
          · exact z3
          · intro z
            subst z z1 z2
            exact h (s.inj i j c ds es hm e1 hρ e2 hσ q1)
  · have f : ∀ k es, (ρ.set i (some (.lst ds')))[k]? = some (some (D.lst es)) → ∃ es', ρ[k]? = some (some (D.lst es')) := fun k es q => by
      by_cases h : i = k
      · subst h; exact ⟨ds, hρ⟩
      · rw [List.getElem?_set_ne h] at q; exact ⟨es, q⟩
    obtain ⟨es', q3⟩ := f j es h3
    obtain ⟨fs', q4⟩ := f k fs h4
    exact s.inj j k c es' fs' h1 h2 q3 q4 h5 h6
  · obtain ⟨p1, p2, p3⟩ := s.pin x hx
    have hne : i ≠ x.1 := fun z => by rw [← z, hm] at p1; cases p1
    exact ⟨p1, by rw [List.getElem?_set_ne hne]; exact p2, p3⟩
theorem mut_gr {xs : List V} (hH : H a = some (.lst xs)) (hP : ¬ P a) {o : HO} : GrS P H F as (upd H a o) F as :=
  ⟨fun _ _ _ _ _ _ => rfl, Same.refl F, ⟨[], by simp, fun _ h => nomatch h⟩, fun c u p e _ _ => by rw [upd_ne (fun z => hP (by rw [← z]; exact p))]; exact e, fun c e => by
    by_cases h : c = a
    · subst h; rw [upd_same] at e; cases e
    · rwa [upd_ne h] at e, fun c o' u e => by rw [upd_ne (fun z => by rw [z, hH] at e; cases e)]; exact e⟩
theorem RlO.mut (r : RlO K mg O H F as) (hF : F a = none) (ha : a ∉ as) {o : HO} : RlO K mg O (upd H a o) F as := by
  refine ⟨fun c u e => ?_, r.fd, r.nd, r.len, r.fa, fun n c u hc hu => (r.ob n c u hc hu).keep (upd_ne ?_) (Same.refl F) fun _ _ h => h⟩
  · rw [upd_ne (ne_of_none e hF)]; exact r.fh c u e
  · intro z; subst z; exact ha (List.mem_of_getElem? hc)
end
section
variable {X : Cx} {md : List Md} {P : Pt} {R : RR}
def msApp (i : Nat) (m : M D) : MS := fun ρ O => match m ρ O with
  | .ok d O' => match ρ[i]? with
    | some (some (.lst ds)) => if ds.length < 1000000 then .nx (ρ.set i (some (.lst (ds ++ [d])))) O' else .no
    | _ => .no
  | .ex x O' => .ex x O'
  | .no => .no
theorem msApp_inv {i : Nat} {m : M D} {ρ : DEnv} {O : Store} (K : Frag) (mg : Str → Option Value) {D : Ends} {H F : Hp} {as : List Addr} (k : FlOk K mg md P R D H F as (msApp i m ρ O)) :
    ∃ d O' ds, m ρ O = .ok d O' ∧ ρ[i]? = some (some (.lst ds)) ∧ ds.length < 1000000 ∧ FlOk K mg md P R D H F as (.nx (ρ.set i (some (.lst (ds ++ [d])))) O') := by
  unfold msApp at k
  split at k
  · rename_i d O' e
    split at k
    · rename_i ds e2
      split at k
      · rename_i hz
        exact ⟨d, O', ds, e, e2, hz, k⟩
      · exact False.elim k
    · exact False.elim k
  · exact False.elim k
  · exact False.elim k
theorem vs_append (i : Nat) {x : Str} {p apos cpos pos : Pos} {e : Expr} {m : M D} (h : VE X md P e m) (hm : md[i]? = some .o := by rfl) (hN : X.N[i]? = some x := by rfl) (hv : Vis X.env.scope x := by first | exact Or.inl rfl | exact Or.inr (Or.inl rfl) | exact Or.inr (Or.inr rfl))
    (hd : (x == ("__debug__" : Str)) = false := by decide) (hcd : (x == ("__classdict__" : Str)) = false := by decide)
    (hbase : attributeBase (.Name x p) "append" X.env (eval (.Name x p) X.env) = eval (.Name x p) X.env := by rfl)
    (hfew : ((backTo cpos (starEach [e] X.env)).all (fun x => !x.1) && (backToKw cpos (keywordEach [] X.env)).all (fun x => x.1.isSome) && decide ([e].length + ([] : List Keyword).length + (if ([] : List Keyword).isEmpty then 0 else 1) < 30)) = true := by rfl)
    (hline : (apos.endLine == cpos.line) = true := by rfl) (hs : starEach [e] X.env = (false, eval e X.env) :: starEach [] X.env := by exact starC rfl) (hplain : (backTo cpos (starEach [] X.env)).any (·.1) = false := by exact starAny rfl)
    (hsw : swapsWith (.Call (.Attribute (.Name x p) "append" apos) [e] [] cpos) none pos.line X.env = pure false := by rfl) :
    VS X md P R (.Expr (.Call (.Attribute (.Name x p) "append" apos) [e] [] cpos) pos) (msApp i m) :=
  (ps_expr (pe_bm PySem.F.plainAttrs_list PySem.F.slot_list_append PySem.F.type_list_append mt_append (pe_var (i := i) hN hv hd hcd) (pa_cons h pa_nil hs) hbase hfew hline hs hplain) hsw).imp fun D σ H q => by
    obtain ⟨ρ, O, F, as, r, s, k⟩ := q
    obtain ⟨d, O', ds, e, e2, hz, k⟩ := msApp_inv X.K X.mg k
    obtain ⟨a, xs, h1, h2, h3, h4, h5, h6⟩ := s.own hm e2
    refine ⟨_, h1, .inl ⟨rfl, xs, .inl (.inl h2)⟩, ρ, O, F, as, d, O', r, s, e, fun y H1 F1 as1 g1 r1 hy => ?_⟩
    have s1 := s.step g1
    have hn : H a ≠ none := by rw [h2]; exact fun z => nomatch z
    have q2 := g1.fr _ _ h2 h4 rfl
    have q3 : F1 a = none := by rw [g1.fz a _ h2 h4 rfl]; exact h3
    have q4 := g1.out h4 hn
    have hn1 : H1 a ≠ none := by rw [q2]; exact fun z => nomatch z
    exact ⟨a, xs, y, rfl, rfl, q2, by rw [h6.length]; exact Nat.lt_of_lt_of_le hz (by decide), k σ _ F1 as1 (g1.toS.trans (mut_gr q2 h5)) (r1.mut q3 q4) (s1.mut hm e2 h1 q3 q4 h5 ((h6.gr g1).snoc hy))⟩
def rExtR (K : Frag) : V → List V → Hp → VK → Prop := fun x vs H Q => ∃ l b xs zs, x = .ref l ∧ vs = [.ref b] ∧ H l = some (.lst xs) ∧ RdK K H b zs ∧ xs.length + zs.length ≤ sizeLine ∧ Q .non (upd H l (.lst (xs ++ zs)))
theorem mt_extR : MtM X "list.extend" (rExtR X.K) := by
  intro pins s σ H x vs v us Q I rx rv h
  obtain ⟨l, b, xs, zs, rfl, rfl, hH, hB, hz, q⟩ := h
  cases rx
  obtain ⟨u, rfl, ru⟩ := rv.one
  cases ru
  obtain ⟨z, its, n, r, hl, e⟩ := I.lstM hH
  obtain ⟨z2, its2, n2, r2, e2⟩ := hB.ok I
  have hl2 := r2.length
  have hsz : its.toArray.size + its2.toArray.size ≤ sizeLine := by rw [List.size_toArray, List.size_toArray]; omega
  have hlong : ¬ (!its.toArray.isEmpty && Builtin.List.listTooLong (its.toArray.size + its2.toArray.size)) = true := by
    rw [notLongL hsz, Bool.and_false]
    exact Bool.false_ne_true
  refine call_meets F.slot_list_extend ⟨_, e, rfl⟩ F.entry_list_extend (F.args_list_extend_2 _ _)
    (AutoSeq1.list_extend_list_list_0 l its.toArray n b its2.toArray n2 hlong (by rw [List.size_toArray]; omega) (by omega)) ⟨e, e2, ?_⟩
  refine ⟨.non, _, I.lset (its' := its ++ its2) hH e (by simp) (r.append r2) ?_, rfl, q⟩
  rw [List.length_append]
  omega
def msExt (i : Nat) (m : M D) : MS := fun ρ O => match m ρ O with
  | .ok d O' => match ρ[i]?, deref O' d with
    | some (some (.lst ds)), .lst es => if ds.length + es.length ≤ 1000000 then .nx (ρ.set i (some (.lst (ds ++ es)))) O' else .no
    | _, _ => .no
  | .ex x O' => .ex x O'
  | .no => .no
theorem msExt_inv {i : Nat} {m : M D} {ρ : DEnv} {O : Store} (K : Frag) (mg : Str → Option Value) {D : Ends} {H F : Hp} {as : List Addr} (k : FlOk K mg md P R D H F as (msExt i m ρ O)) :
    ∃ d O' ds es, m ρ O = .ok d O' ∧ ρ[i]? = some (some (.lst ds)) ∧ deref O' d = .lst es ∧ ds.length + es.length ≤ 1000000 ∧ FlOk K mg md P R D H F as (.nx (ρ.set i (some (.lst (ds ++ es)))) O') := by
  unfold msExt at k
  split at k
  · rename_i d O' e
    split at k
    · rename_i ds es e2 e3
      split at k
      · rename_i hz
        exact ⟨d, O', ds, es, e, e2, e3, hz, k⟩
      · exact False.elim k
    · exact False.elim k
  · exact False.elim k
  · exact False.elim k
theorem vs_extend (i : Nat) {x : Str} {p apos cpos pos : Pos} {e : Expr} {m : M D} (h : SE X md P e m) (hm : md[i]? = some .o := by rfl) (hN : X.N[i]? = some x := by rfl) (hv : Vis X.env.scope x := by first | exact Or.inl rfl | exact Or.inr (Or.inl rfl) | exact Or.inr (Or.inr rfl))
    (hd : (x == ("__debug__" : Str)) = false := by decide) (hcd : (x == ("__classdict__" : Str)) = false := by decide)
    (hbase : attributeBase (.Name x p) "extend" X.env (eval (.Name x p) X.env) = eval (.Name x p) X.env := by rfl)
    (hfew : ((backTo cpos (starEach [e] X.env)).all (fun x => !x.1) && (backToKw cpos (keywordEach [] X.env)).all (fun x => x.1.isSome) && decide ([e].length + ([] : List Keyword).length + (if ([] : List Keyword).isEmpty then 0 else 1) < 30)) = true := by rfl)
    (hline : (apos.endLine == cpos.line) = true := by rfl) (hs : starEach [e] X.env = (false, eval e X.env) :: starEach [] X.env := by exact starC rfl) (hplain : (backTo cpos (starEach [] X.env)).any (·.1) = false := by exact starAny rfl)
    (hsw : swapsWith (.Call (.Attribute (.Name x p) "extend" apos) [e] [] cpos) none pos.line X.env = pure false := by rfl) :
    VS X md P R (.Expr (.Call (.Attribute (.Name x p) "extend" apos) [e] [] cpos) pos) (msExt i m) :=
  (ps_expr (pe_bm PySem.F.plainAttrs_list PySem.F.slot_list_extend PySem.F.type_list_extend mt_extR (pe_var (i := i) hN hv hd hcd) (pa_cons h pa_nil hs) hbase hfew hline hs hplain) hsw).imp fun D σ H q => by
    obtain ⟨ρ, O, F, as, r, s, k⟩ := q
    obtain ⟨d, O', ds, es, e, e2, e3, hz, k⟩ := msExt_inv X.K X.mg k
    obtain ⟨a, xs, h1, h2, h3, h4, h5, h6⟩ := s.own hm e2
    refine ⟨_, h1, .inl ⟨rfl, xs, .inl (.inl h2)⟩, ρ, O, F, as, d, O', r, s, e, fun y H1 F1 as1 g1 r1 hy => ?_⟩
    have s1 := s.step g1
    have hn : H a ≠ none := by rw [h2]; exact fun z => nomatch z
    have q2 := g1.fr _ _ h2 h4 rfl
    have q3 : F1 a = none := by rw [g1.fz a _ h2 h4 rfl]; exact h3
    have q4 := g1.out h4 hn
    have hn1 : H1 a ≠ none := by rw [q2]; exact fun z => nomatch z
    have ly := Sv.lk hy r1
    rw [e3] at ly
    obtain ⟨b, zs, rfl, w1, w2⟩ := ly.list r1.fh
    exact ⟨a, b, xs, zs, rfl, rfl, q2, w1, by rw [h6.length, w2.length]; exact size6 hz, k σ _ F1 as1 (g1.toS.trans (mut_gr q2 h5)) (r1.mut q3 q4) (s1.mut hm e2 h1 q3 q4 h5 (Rps.append w2 (h6.gr g1)))⟩
def msSetIx (i : Nat) (mi m : M D) : MS := fun ρ O => match m ρ O with
  | .ok d O1 => match mi ρ O1 with
    | .ok (.int j) O2 => match ρ[i]? with
      | some (some (.lst ds)) => match ixN ds.length j with
        | some n => .nx (ρ.set i (some (.lst (ds.set n d)))) O2
        | none => .no
      | _ => .no
    | _ => .no
  | .ex x O' => .ex x O'
  | .no => .no
theorem vs_setIx (i : Nat) {x : Str} {p pos apos : Pos} {e ix : Expr} {mi m : M D} (h : VE X md P e m) (hi : VE X md P ix mi) (hm : md[i]? = some .o := by rfl) (hN : X.N[i]? = some x := by rfl) (hv : Vis X.env.scope x := by first | exact Or.inl rfl | exact Or.inr (Or.inl rfl) | exact Or.inr (Or.inr rfl))
    (hd : (x == ("__debug__" : Str)) = false := by decide) (hcd : (x == ("__classdict__" : Str)) = false := by decide)
    (ha : ∀ v, assign (.Subscript (.Name x p) ix apos) X.env v = (do
      let ov ← holding [v] (eval (.Name x p) X.env)
      let iv ← holding [v, ov] (eval ix X.env)
      standAt apos
      holding [v, ov, iv] (setItem ov iv v)
      release [v, ov, iv] []) := by intro _; rfl)
    (hs : swapsWithSole [.Subscript (.Name x p) ix apos] e pos.line X.env = pure false := by rfl) (hw : swappedStores [.Subscript (.Name x p) ix apos] e X.env = pure none := by rfl)
    (h1 : (assignEach [.Subscript (.Name x p) ix apos] X.env).map (·.2) = [assign (.Subscript (.Name x p) ix apos) X.env] := by rfl) :
    VS X md P R (.Assign [.Subscript (.Name x p) ix apos] e pos) (msSetIx i mi m) :=
  (ps_asg h (pg_sub (pe_var (i := i) hN hv hd hcd) hi set_list ha) hs hw h1).imp fun D σ H q => by
    obtain ⟨ρ, O, F, as, r, s, k⟩ := q
    unfold msSetIx at k
    split at k
    · rename_i d O1 e1
      split at k
      · rename_i j O2 e2
        split at k
        · rename_i ds e3
          split at k
          · rename_i n e4
            obtain ⟨a, xs, h1, h2, h3, h4, h5, h6⟩ := s.own hm e3
            refine ⟨ρ, O, F, as, d, O1, r, s, e1, fun y H1 F1 as1 g1 r1 hy => ?_⟩
            refine ⟨_, h1, ρ, O1, F1, as1, .int j, O2, r1, s.step g1, e2, fun z H2 F2 as2 g2 r2 hz => ?_⟩
            have g := g1.trans g2
            have hn : H a ≠ none := by rw [h2]; exact fun z => nomatch z
            have q2 := g.fr _ _ h2 h4 rfl
            have q3 : F2 a = none := by rw [g.fz a _ h2 h4 rfl]; exact h3
            have q4 := g.out h4 hn
            have hn1 : H2 a ≠ none := by rw [q2]; exact fun z => nomatch z
            exact ⟨a, xs, j, n, rfl, Rp.unI hz, q2, by rw [h6.length]; exact e4, k σ _ F2 as2 (g.toS.trans (mut_gr q2 h5)) (r2.mut q3 q4) ((s.step g).mut hm e3 h1 q3 q4 h5 ((h6.gr g).set n (Rp.gr hy g2)))⟩
          · exact False.elim k
        · exact False.elim k
      · exact False.elim k
    · exact False.elim k
    · exact False.elim k
end
def putD (f : Str) (v : D) : List (Str × D) → List (Str × D)
  | [] => [(f, v)]
  | (g, x) :: r => if g = f then (g, v) :: r else (g, x) :: putD f v r
section
variable {K : Frag} {F : Hp} {as : List Addr}
theorem FsR.cons_inv {gs : List (Str × V)} {f : Str} {d : D} {fs : List (Str × D)} (h : FsR K F as gs ((f, d) :: fs)) : ∃ v gs', gs = (f, v) :: gs' ∧ Rp K F as v d ∧ FsR K F as gs' fs := by
  obtain ⟨h1, h2⟩ := h
  cases gs with
  | nil => cases h1
  | cons g gs' =>
    obtain ⟨g1, g2⟩ := g
    simp only [List.map_cons, List.cons.injEq] at h1
    obtain ⟨x, r, e, h3, h4⟩ := h2.un
    simp only [List.map_cons, List.cons.injEq] at e
    obtain ⟨rfl, rfl⟩ := e
    exact ⟨g2, gs', by rw [h1.1], h3, ⟨h1.2, h4⟩⟩
theorem FsR.nil_inv {gs : List (Str × V)} (h : FsR K F as gs []) : gs = [] := List.map_eq_nil_iff.mp h.nm
theorem FsR.get : ∀ {fs : List (Str × D)} {gs : List (Str × V)} {f : Str} {d : D}, FsR K F as gs fs → fs.lookup f = some d → ∃ v, gs.lookup f = some v ∧ Rp K F as v d
  | [], _, _, _, _, e => by cases e
  | (g, x) :: fs, gs, f, d, h, e => by
    obtain ⟨v, gs', rfl, h1, h2⟩ := h.cons_inv
    rw [List.lookup_cons] at e ⊢
    cases q : f == g with
    | true =>
      rw [q] at e
      cases e
      exact ⟨v, rfl, h1⟩
    | false =>
      rw [q] at e
      exact FsR.get h2 e
theorem FsR.no : ∀ {fs : List (Str × D)} {gs : List (Str × V)} {f : Str}, FsR K F as gs fs → fs.lookup f = none → gs.lookup f = none
  | [], _, _, h, e => by rw [h.nil_inv]; rfl
  | (g, x) :: fs, gs, f, h, e => by
    obtain ⟨v, gs', rfl, h1, h2⟩ := h.cons_inv
    rw [List.lookup_cons] at e ⊢
    cases q : f == g with
    | true => rw [q] at e; cases e
    | false =>
      rw [q] at e
      exact FsR.no h2 e
theorem FsR.put {f : Str} {v : V} {d : D} (hv : Rp K F as v d) : ∀ {fs : List (Str × D)} {gs : List (Str × V)}, FsR K F as gs fs → FsR K F as (putF f v gs) (putD f d fs)
  | [], _, h => by
    rw [h.nil_inv]
    exact ⟨rfl, Rps.cons hv Rps.nil⟩
  | (g, x) :: fs, gs, h => by
    obtain ⟨u, gs', rfl, h1, h2⟩ := h.cons_inv
    rw [putF, putD]
    by_cases q : g = f
    · rw [if_pos q, if_pos q]
      exact ⟨by simp [h2.nm], Rps.cons hv h2.vl⟩
    · rw [if_neg q, if_neg q]
      have ih := FsR.put (f := f) hv h2
      exact ⟨by simp [ih.nm], Rps.cons h1 ih.vl⟩
theorem FsR.length {fs : List (Str × D)} {gs : List (Str × V)} (h : FsR K F as gs fs) : gs.length = fs.length := by
  have := congrArg List.length h.nm
  simpa using this
theorem RlO.set {mg : Str → Option Value} {O : Store} {H : Hp} {n : Nat} {a : Addr} {o : Ob} {u : HO} (r : RlO K mg O H F as) (ha : as[n]? = some a) (ho : ObR K mg (upd H a u) F as a o) : RlO K mg (O.set n o) (upd H a u) F as := by
  have hF := r.fa a (List.mem_of_getElem? ha)
  refine ⟨fun c w e => ?_, r.fd, r.nd, by rw [List.length_set]; exact r.len, r.fa, fun k c w hc hw => ?_⟩
  · rw [upd_ne (ne_of_none e hF)]; exact r.fh c w e
  · by_cases h : n = k
    · subst h
      rw [ha] at hc; cases hc
      rw [List.getElem?_set_self (by rw [← r.len]; exact (List.getElem?_eq_some_iff.mp ha).1)] at hw
      cases hw
      exact ho
    · rw [List.getElem?_set_ne h] at hw
      refine (r.ob k c w hc hw).keep (upd_ne ?_) (Same.refl F) fun _ _ h => h
      intro z
      subst z
      obtain ⟨l1, q1⟩ := List.getElem?_eq_some_iff.mp ha
      obtain ⟨l2, q2⟩ := List.getElem?_eq_some_iff.mp hc
      exact h ((List.getElem_inj r.nd).mp (q1.trans q2.symm))
end
def KC (K : Frag) (mg : Str → Option Value) (c f : Str) : Prop := ∃ C, mg c = some (.ref C) ∧ Cls K C ∧ NoAttr K C f
section
variable {X : Cx} {md : List Md} {P : Pt} {R : RR}
def mFld (cs : List Str) (f : Str) (m : M D) : M D := fun ρ O => (m ρ O).bind fun d O1 => match d with
  | .ob n => match O1[n]? with
    | some (.ins c fs) => if c ∈ cs then match fs.lookup f with
      | some y => .ok y O1
      | none => .no else .no
    | _ => .no
  | _ => .no
theorem ve_fld {cs : List Str} {f : Str} {o : Expr} {pos : Pos} {m : M D} (hc : ∀ c ∈ cs, KC X.K X.mg c f) (h : VE X md P o m) (hb : attributeBase o f X.env (eval o X.env) = eval o X.env := by rfl) : VE X md P (.Attribute o f pos) (mFld cs f m) := (pe_fld h hb).imp fun σ H Q q => by
  obtain ⟨ρ, O, F, as, d, O', r, s, e, k⟩ := q
  obtain ⟨x, O1, e1, e⟩ := Res.bind_ok e
  cases x with
  | ob n =>
    dsimp only at e
    split at e
    · rename_i c fs eo
      split at e
      · rename_i hcs
        split at e
        · rename_i y ey
          cases e
          refine ⟨ρ, _, F, as, _, _, r, s, e1, fun v H1 F1 as1 g1 r1 hv => ?_⟩
          obtain ⟨a, rfl, ha⟩ := Rp.unO hv
          obtain ⟨C, dx, gs, h1, h2, h3⟩ := r1.ob n a _ ha eo
          obtain ⟨C', h4, h5, h6⟩ := hc c hcs
          rw [h1] at h4; cases h4
          obtain ⟨w, h7, h8⟩ := h3.get ey
          exact ⟨a, C, dx, gs, w, rfl, h2, h5, h6, h7, k w H1 F1 as1 g1 r1 h8⟩
        · cases e
      · cases e
    · cases e
  | _ => cases e
def msFld (cs : List Str) (f : Str) (mo mv : M D) : MS := fun ρ O => match mv ρ O with
  | .ok d O1 => match mo ρ O1 with
    | .ok (.ob n) O2 => match O2[n]? with
      | some (.ins c fs) => if c ∈ cs ∧ fs.length < 900 then .nx ρ (O2.set n (.ins c (putD f d fs))) else .no
      | _ => .no
    | _ => .no
  | .ex x O' => .ex x O'
  | .no => .no
theorem vs_fld {cs : List Str} {f : Str} {o value : Expr} {pos pos' : Pos} {mo mv : M D} (hc : ∀ c ∈ cs, KC X.K X.mg c f) (ho : VE X md P o mo) (hv : VE X md P value mv) (hs : swapsWith value (some (.Attribute o f pos')) pos.line X.env = pure false := by rfl) : VS X md P R (.Assign [.Attribute o f pos'] value pos) (msFld cs f mo mv) := (ps_fld ho hv hs).imp fun D σ H q => by
  obtain ⟨ρ, O, F, as, r, s, k⟩ := q
  unfold msFld at k
  split at k
  · rename_i d O1 e1
    split at k
    · rename_i n O2 e2
      split at k
      · rename_i c fs eo
        split at k
        · rename_i hcs
          refine ⟨ρ, O, F, as, d, O1, r, s, e1, fun y H1 F1 as1 g1 r1 hy => ?_⟩
          refine ⟨ρ, O1, F1, as1, .ob n, O2, r1, s.step g1, e2, fun z H2 F2 as2 g2 r2 hz => ?_⟩
          have g := g1.trans g2
          obtain ⟨a, rfl, ha⟩ := Rp.unO hz
          obtain ⟨C, dx, gs, h1, h2, h3⟩ := r2.ob n a _ ha eo
          obtain ⟨C', h4, h5, h6⟩ := hc c hcs.1
          rw [h1] at h4; cases h4
          have hmem := List.mem_of_getElem? ha
          have hn : H2 a ≠ none := by rw [h2]; exact fun z => nomatch z
          have gg : Gr H2 F2 as2 (upd H2 a (.ins C dx (putF f y gs))) F2 as2 := ⟨fun _ _ _ _ _ => rfl, Same.refl _, ⟨[], by simp, fun _ h => nomatch h⟩, fun b u e hb _ => by rw [upd_ne (fun z => hb (by rw [z]; exact hmem))]; exact e, fun b e => by
            by_cases h : b = a
            · subst h; rw [upd_same] at e; cases e
            · rwa [upd_ne h] at e, fun b o' u e => by rw [upd_ne (fun z => by rw [z, h2] at e; cases e)]; exact e⟩
          refine ⟨a, C, dx, gs, rfl, h2, h5, h6, by rw [h3.length]; omega, ?_⟩
          exact k σ _ F2 as2 (g.trans gg).toS (r2.set ha ⟨C, dx, _, h1, upd_same, h3.put (Rp.gr hy g2)⟩) ((s.step g).step gg)
        · exact False.elim k
      · exact False.elim k
    · exact False.elim k
  · exact False.elim k
  · exact False.elim k
end
section
variable {Pr : Program} {w : World} {K : Frag} {mg : Str → Option Value} {base : Heap}
theorem vfun {x qual : Str} {st : Stmt} {f : Addr} {fd : FuncData} {N ps : List Str} {k : Nat} (Fn : Fun K x qual st f fd) (S : FnScope N ps (defScope st))
    (pm lm : List Md) {R : RR} {b : MS} (hR : RRok R) (hR0 : ∀ N H F as, R N H F as .non .non) (hpl : pm.length = ps.length) (hl : (pm ++ lm).length = N.length) (hp : ∀ m ∈ pm, m ≠ .o)
    (body : ∀ (cdv : Value) (A : Around) (outer : List Env) (s : Shared) (H : Hp) (E : XK), Room k (A.deeper (envOfC qual (defScope st) s.heap.objs.size f cdv)) → ∀ P, VSs ((cxOf CX0 Pr w K mg base N qual (defScope st) f cdv A outer s H E).nox) (pm ++ lm) P R (defBody st) b) :
    FnOk Pr w K mg base CX0 (k + 1) f fd ps (vSp K mg pm R (mFun N.length b)) := by
  refine Fn.ok S (fun vs H Q E h => ?_) (fun cdv A outer s H vs Q E hr h => ?_)
  · obtain ⟨ds, O, F, as, d, O', r, a, _⟩ := h
    rw [a.len.1, hpl]
  · obtain ⟨ds, O, F, as, d, O', r, a, e, q⟩ := h
    refine ⟨_, body cdv A outer s H E hr (Pt.all H), ?_⟩
    refine ⟨_, O, F, as, r, start_slots a hl hp, ?_⟩
    unfold mFun at e
    cases eb : b (ds.map some ++ List.replicate (N.length - ds.length) none) O with
    | rt d' O2 =>
      rw [eb] at e
      cases e
      exact fun v H' F' as' g r' hv => q v H' F' as' g.gr r' (hR _ _ _ _ _ _ _ (fun c hc => Classical.not_not.mp hc) hv)
    | nx ρ O2 =>
      rw [eb] at e
      cases e
      exact fun σ' H' F' as' g r' _ => q _ H' F' as' g.gr r' (hR0 _ _ _ _)
    | bk _ _ => rw [eb] at e; cases e
    | ct _ _ => rw [eb] at e; cases e
    | ex _ _ => rw [eb] at e; cases e
    | no => rw [eb] at e; cases e
def DefM (K : Frag) (mg : Str → Option Value) (c m qual : Str) (st : Stmt) : Prop := ∃ C f fd, mg c = some (.ref C) ∧ Cls K C ∧ Meth K C m f ∧ Fun K m qual st f fd
def CanM (P : Program) (w : World) (K : Frag) (mg : Str → Option Value) (base : Heap) (c m : Str) (ps : List Str) (k : Nat) (sp : Sp) : Prop :=
  ∃ C f fd, mg c = some (.ref C) ∧ Cls K C ∧ Meth K C m f ∧ Binds K fd ps [] ∧ FnOk P w K mg base CX0 k f fd ps sp
def CanC (P : Program) (w : World) (K : Frag) (mg : Str → Option Value) (base : Heap) (c : Str) (ps : List Str) (k : Nat) (sp : Sp) : Prop :=
  ∃ C f fd, mg c = some (.ref C) ∧ Mk K C f ∧ Binds K fd ps [] ∧ FnOk P w K mg base CX0 k f fd ps sp
def DefC (K : Frag) (mg : Str → Option Value) (c qual : Str) (st : Stmt) : Prop := ∃ C f fd, mg c = some (.ref C) ∧ Mk K C f ∧ Fun K "__init__" qual st f fd
theorem vdefM {c x qual : Str} {st : Stmt} {N ps : List Str} {k : Nat} (Df : DefM K mg c x qual st) (S : FnScope N ps (defScope st))
    (hb : ∀ (kV doc pm : Value) (an : Option Addr) (cdv ct : Value) (us : List Value), us.length = ps.length → bindArgs (PySem.W.fnOf x qual (defArgs st) (defBody st) (defScope st) .none kV doc pm an cdv ct) ⟨us, []⟩ = pure (ps.zip us))
    (pm lm : List Md) {R : RR} {b : MS} (hR : RRok R) (hR0 : ∀ N H F as, R N H F as .non .non) (hpl : pm.length = ps.length := by rfl) (hl : (pm ++ lm).length = N.length := by rfl) (hp : ∀ m ∈ pm, m ≠ .o := by decide)
    (body : ∀ (f : Addr) (cdv : Value) (A : Around) (outer : List Env) (s : Shared) (H : Hp) (E : XK), Room k (A.deeper (envOfC qual (defScope st) s.heap.objs.size f cdv)) → ∀ P, VSs ((cxOf CX0 Pr w K mg base N qual (defScope st) f cdv A outer s H E).nox) (pm ++ lm) P R (defBody st) b) :
    CanM Pr w K mg base c x ps (k + 1) (vSp K mg pm R (mFun N.length b)) := by
  obtain ⟨C, f, fd, h1, h2, h3, h4⟩ := Df
  exact ⟨C, f, fd, h1, h2, h3, h4.binds hb, vfun h4 S pm lm hR hR0 hpl hl hp (body f)⟩
theorem vdefC {c qual : Str} {st : Stmt} {N ps : List Str} {k : Nat} (Df : DefC K mg c qual st) (S : FnScope N ps (defScope st))
    (hb : ∀ (kV doc pm : Value) (an : Option Addr) (cdv ct : Value) (us : List Value), us.length = ps.length → bindArgs (PySem.W.fnOf "__init__" qual (defArgs st) (defBody st) (defScope st) .none kV doc pm an cdv ct) ⟨us, []⟩ = pure (ps.zip us))
    (pm lm : List Md) {R : RR} {b : MS} (hR : RRok R) (hR0 : ∀ N H F as, R N H F as .non .non) (hpl : pm.length = ps.length := by rfl) (hl : (pm ++ lm).length = N.length := by rfl) (hp : ∀ m ∈ pm, m ≠ .o := by decide)
    (body : ∀ (f : Addr) (cdv : Value) (A : Around) (outer : List Env) (s : Shared) (H : Hp) (E : XK), Room k (A.deeper (envOfC qual (defScope st) s.heap.objs.size f cdv)) → ∀ P, VSs ((cxOf CX0 Pr w K mg base N qual (defScope st) f cdv A outer s H E).nox) (pm ++ lm) P R (defBody st) b) :
    CanC Pr w K mg base c ps (k + 1) (vSp K mg pm R (mFun N.length b)) := by
  obtain ⟨C, f, fd, h1, h2, h4⟩ := Df
  exact ⟨C, f, fd, h1, h2, h4.binds hb, vfun h4 S pm lm hR hR0 hpl hl hp (body f)⟩
end
section
variable {X : Cx} {md : List Md} {P : Pt} {R : RR} {k : Nat} {c m : Str} {ps : List Str} {p pos apos : Pos} {o e : Expr} {es : List Expr} {pm : List Md} {cf : List D → Store → Res D} {mo : M D} {ma : M (List D)}
def mMeth (c m : Str) (cf : List D → Store → Res D) (mo : M D) (ma : M (List D)) : M D := fun ρ O => (mo ρ O).bind fun d O1 => match d with
  | .ob n => match O1[n]? with
    | some (.ins c' fs) => if c' = c ∧ (fs.lookup m).isNone = true then (ma ρ O1).bind fun ds O2 => cf (.ob n :: ds) O2 else .no
    | _ => .no
  | _ => .no
theorem meth_go {K : Frag} {mg : Str → Option Value} {C : Addr} (hR : RRok R) (hC : mg c = some (.ref C)) {E : XK} {σ : St} {H : Hp} {Q : VK} (q : tM K mg md P R (mMeth c m cf mo ma) σ H Q) :
    tMeth C m (vSp K mg (.v :: pm) R cf) [] E (tM K mg md P (rV K) mo) (tMA K mg md P pm ma) σ H Q := by
  obtain ⟨ρ, O, F, as, d, O', r, s, e, k⟩ := q
  obtain ⟨x, O1, e1, e⟩ := Res.bind_ok e
  cases x with
  | ob n =>
    dsimp only at e
    split at e
    · rename_i c' fs eo
      split at e
      · rename_i hc
        obtain ⟨ds, O2, e2, e⟩ := Res.bind_ok e
        refine ⟨ρ, O, F, as, .ob n, O1, r, s, e1, fun v H1 F1 as1 g1 r1 hv => ?_⟩
        obtain ⟨a, rfl, ha⟩ := Rp.unO hv
        obtain ⟨C', dx, gs, h1, h2, h3⟩ := r1.ob n a _ ha eo
        rw [hc.1, hC] at h1; cases h1
        refine ⟨a, dx, gs, rfl, h2, h3.no (Option.isNone_iff_eq_none.mp hc.2), ?_⟩
        refine ⟨ρ, O1, F1, as1, ds, O2, r1, s.step g1, e2, fun vs H2 F2 as2 g2 r2 hvs => ?_⟩
        dsimp only
        rw [List.append_nil]
        exact ⟨.ob n :: ds, O2, F2, as2, d, O', r2, ⟨Rp.gr hv g2, hvs⟩, e, fun v' H' F' as' g' r' hw => k v' H' F' as' ((g1.trans g2).trans g') r' (hR _ _ _ _ _ _ _ (fun b hb => (g1.trans g2).dm b hb) hw)⟩
      · cases e
    · cases e
  | _ => cases e
theorem xe_meth {pl : Sem Bool} (hR : RRok R) (M : CanM X.prog X.w X.K X.mg X.base c m ps k (vSp X.K X.mg (.v :: pm) R cf)) (hr : Room k X.A) (ho : VE X md P o mo) (ha : AE X md P pm (e :: es) ma)
    (hst : starEach (e :: es) X.env = (false, eval e X.env) :: starEach es X.env := by exact starC rfl) (hpl : (backTo pos (starEach es X.env)).any (·.1) = false := by exact starAny rfl)
    (ht : eval (.Call (.Attribute o m apos) (e :: es) [] pos) X.env = (do
      let ov ← eval o X.env
      standAt apos.atName
      let (f, first) ← holding [ov] (getMethod ov m pl)
      callWith pos f first (backTo pos (starEach (e :: es) X.env)) (backToKw pos (keywordEach [] X.env))) := by rfl) :
    PE X (.Call (.Attribute o m apos) (e :: es) [] pos) (tM X.K X.mg md P R (mMeth c m cf mo ma)) := by
  obtain ⟨C, f, fd, h1, h2, h3, h4, h5⟩ := M
  exact (pe_meth (pl := pl) (E := E0) (ds := []) (dvs := []) ho h2 h3 h5 hr h4 .nil pass0 ha hst hpl ht).imp fun _ _ _ q => meth_go hR h1 q
theorem xe_meth0 {pl : Sem Bool} (hR : RRok R) (M : CanM X.prog X.w X.K X.mg X.base c m ps k (vSp X.K X.mg [.v] R cf)) (hr : Room k X.A) (ho : VE X md P o mo)
    (ht : eval (.Call (.Attribute o m apos) [] [] pos) X.env = (do
      let ov ← eval o X.env
      standAt apos.atName
      let (f, first) ← holding [ov] (getMethod ov m pl)
      callWith pos f first (backTo pos (starEach [] X.env)) (backToKw pos (keywordEach [] X.env))) := by rfl) :
    PE X (.Call (.Attribute o m apos) [] [] pos) (tM X.K X.mg md P R (mMeth c m cf mo maNil)) := by
  obtain ⟨C, f, fd, h1, h2, h3, h4, h5⟩ := M
  refine (pe_meth0 (pl := pl) (E := E0) (ds := []) (dvs := []) ho h2 h3 h5 hr h4 .nil pass0 ht).imp fun σ H Q q => ?_
  obtain ⟨ρ, O, F, as, d, O', r, s, e, k⟩ := meth_go (pm := []) (E := E0) hR h1 q
  refine ⟨ρ, O, F, as, d, O', r, s, e, fun v H' F' as' g r' hv => ?_⟩
  obtain ⟨a, dx, fs, e1, e2, e3, t⟩ := k v H' F' as' g r' hv
  refine ⟨a, dx, fs, e1, e2, e3, ?_⟩
  obtain ⟨ρ1, O1, F1, as1, ds1, O2, r1, s1, e4, k4⟩ := t
  cases e4
  exact k4 [] H' F1 as1 Gr.refl r1 trivial
def mMake (c : Str) (cf : List D → Store → Res D) (ma : M (List D)) : M D := fun ρ O => (ma ρ O).bind fun ds O1 => match cf (.ob O1.length :: ds) (O1 ++ [.ins c []]) with
  | .ok .non O2 => .ok (.ob O1.length) O2
  | .ok _ _ => .no
  | .ex x O2 => .ex x O2
  | .no => .no
theorem make_go {K : Frag} {mg : Str → Option Value} {C : Addr} (hC : mg c = some (.ref C)) {E : XK} {σ : St} {H : Hp} {Q : VK} (q : tM K mg md P (rV K) (mMake c cf ma) σ H Q) :
    tMake C (vSp K mg (.v :: pm) (rV K) cf) [] E (tMA K mg md P pm ma) σ H Q := by
  obtain ⟨ρ, O, F, as, d, O', r, s, e, k⟩ := q
  obtain ⟨ds, O1, e1, e⟩ := Res.bind_ok e
  split at e
  · rename_i O2 ec
    cases e
    refine ⟨ρ, O, F, as, ds, O1, r, s, e1, fun vs H1 F1 as1 g1 r1 hvs => ?_⟩
    intro x dx hx hdx hne
    rw [List.append_nil]
    have hx2 : upd H1 dx (.own x) x = none := by rw [upd_ne hne.symm]; exact hx
    have gA : Gr H1 F1 as1 (upd H1 dx (.own x)) F1 as1 := Gr.lay hdx
    have gB : Gr (upd H1 dx (.own x)) F1 as1 (upd (upd H1 dx (.own x)) x (.ins C dx [])) F1 as1 := Gr.lay hx2
    have gC : Gr (upd (upd H1 dx (.own x)) x (.ins C dx [])) F1 as1 (upd (upd H1 dx (.own x)) x (.ins C dx [])) F1 as1 := Gr.refl
    have gAB := gA.trans gB
    have g2 : Gr H1 F1 as1 (upd (upd H1 dx (.own x)) x (.ins C dx [])) F1 (as1 ++ [x]) := ⟨gAB.fz, gAB.ff, ⟨[x], rfl, fun a ha => by rw [List.mem_singleton.mp ha]; exact hx⟩, fun a o e ha hd => gAB.fr a o e ha hd, gAB.dm, gAB.kz⟩
    have nx : x ∉ as1 := fun z => r1.all z hx
    have rB := (r1.lay (o := .own x) hdx).lay (o := .ins C dx []) hx2
    have at_ : ∀ (n : Nat) (a : Addr), as1[n]? = some a → (as1 ++ [x])[n]? = some a := fun n a h => by
      rw [List.getElem?_append_left (List.getElem?_eq_some_iff.mp h).1]; exact h
    have r2 : RlO K mg (O1 ++ [.ins c []]) (upd (upd H1 dx (.own x)) x (.ins C dx [])) F1 (as1 ++ [x]) := by
      refine ⟨rB.fh, rB.fd, ?_, by simp [r1.len], fun a ha => ?_, fun n a o ha ho => ?_⟩
      · rw [List.nodup_append]
        refine ⟨r1.nd, by simp, fun a ha b hb => ?_⟩
        rw [List.mem_singleton.mp hb]
        intro z
        subst z
        exact nx ha
      · rcases List.mem_append.mp ha with z | z
        · exact r1.fa a z
        · rw [List.mem_singleton.mp z]
          exact r1.frF hx
      · by_cases hn : n < O1.length
        · rw [List.getElem?_append_left (by rw [r1.len]; exact hn)] at ha
          rw [List.getElem?_append_left hn] at ho
          exact (rB.ob n a o ha ho).keep rfl (Same.refl _) at_
        · have hn' : n = O1.length := by
            have := (List.getElem?_eq_some_iff.mp ho).1
            simp at this
            omega
          subst hn'
          rw [List.getElem?_append_right (Nat.le_refl _), Nat.sub_self] at ho
          rw [← r1.len, List.getElem?_append_right (Nat.le_refl _), Nat.sub_self] at ha
          cases ho
          cases ha
          exact ⟨C, dx, [], hC, upd_same, ⟨rfl, Rps.nil⟩⟩
    have hox : Rp K F1 (as1 ++ [x]) (.ref x) (.ob O1.length) := Rp.mkO (by rw [← r1.len, List.getElem?_append_right (Nat.le_refl _), Nat.sub_self]; rfl)
    refine ⟨.ob O1.length :: ds, _, F1, as1 ++ [x], .non, _, r2, ⟨hox, hvs.gr g2⟩, ec, fun v H3 F3 as3 g3 r3 hv => ?_⟩
    exact ⟨Rp.unN hv, k _ H3 F3 as3 ((g1.trans g2).trans g3) r3 (Rp.gr hox g3)⟩
  · cases e
  · cases e
  · cases e
theorem ve_make (M : CanC X.prog X.w X.K X.mg X.base c ps k (vSp X.K X.mg (.v :: pm) (rV X.K) cf)) (hr : Room (k + 1) X.A) (ha : AE X md P pm (e :: es) ma) (hg : Gl X c := by rfl) (hdb : (c == ("__debug__" : Str)) = false := by decide)
    (he : starEach (e :: es) X.env = (false, eval e X.env) :: starEach es X.env := by exact starC rfl) (hpl : (backTo pos (starEach es X.env)).any (·.1) = false := by exact starAny rfl) : VE X md P (.Call (.Name c p) (e :: es) [] pos) (mMake c cf ma) := by
  obtain ⟨C, f, fd, h1, h3, h4, h5⟩ := M
  exact (pe_make (E := E0) (ds := []) (dvs := []) h3 h5 hr hg h1 h4 .nil pass0 ha hdb he hpl).imp fun _ _ _ q => make_go h1 q
theorem ve_make0 (M : CanC X.prog X.w X.K X.mg X.base c ps k (vSp X.K X.mg [.v] (rV X.K) cf)) (hr : Room (k + 1) X.A) (hg : Gl X c := by rfl) (hdb : (c == ("__debug__" : Str)) = false := by decide) : VE X md P (.Call (.Name c p) [] [] pos) (mMake c cf maNil) := by
  obtain ⟨C, f, fd, h1, h3, h4, h5⟩ := M
  refine (pe_make0 (E := E0) (ds := []) (dvs := []) h3 h5 hr hg h1 h4 .nil pass0 hdb).imp fun σ H Q q => ?_
  obtain ⟨ρ, O, F, as, ds, O1, r, s, e, k⟩ := make_go (pm := []) (E := E0) h1 q
  cases e
  exact k [] H F as Gr.refl r trivial
end
end L2
namespace L2
open PySem PySem.Spec PyProof.Rows
section
variable {X : Cx} {md : List Md} {P : Pt} {R : RR}
def iterD : D → Option (List D)
  | .lst ds => some ds
  | .tup ds => some ds
  | .str l => if ascii l = true then some (signsD l) else none
  | _ => none
def mIter (m : M D) : M (List D) := fun ρ O => (m ρ O).bind fun d O1 => match iterD d with
  | some ds => .ok ds O1
  | none => .no
theorem se_we {e : Expr} {m : M D} (h : WE X md P e m) : SE X md P e m := h.imp fun σ H Q q => by
  obtain ⟨ρ, O, F, as, d, O', r, s, e, k⟩ := q
  refine ⟨ρ, O, F, as, d, O', r, s, e, fun v H' F' as' g r' hv => k v H' F' as' g r' ?_⟩
  rcases hv with hv | ⟨a, xs, ds, e1, e2, e3, e4, e5, e6⟩
  · exact .inl hv
  · exact .inr ⟨a, xs, ds, e1, e2, e3, e4, e6⟩
theorem vi_any {tg e : Expr} {m : M D} (h : WE X md P e m) : VI X md P tg e (mIter m) := fun pins s σ H Q I q => by
  obtain ⟨ρ, O, F, as, ds, O', r, sl, e, k⟩ := q
  obtain ⟨d, O1, e1, e⟩ := Res.bind_ok e
  cases d with
  | lst es =>
    cases e
    exact vi_list h pins s σ H Q I ⟨ρ, O, F, as, _, _, r, sl, by unfold mList; rw [e1]; rfl, k⟩
  | tup es =>
    cases e
    exact vi_tup (ve_se (se_we h)) pins s σ H Q I ⟨ρ, O, F, as, _, _, r, sl, by unfold mTupI mG; rw [e1]; rfl, k⟩
  | str l =>
    simp only [iterD] at e
    split at e
    · rename_i es hes
      split at hes
      · rename_i hl
        cases hes
        cases e
        refine vi_str (se_we h) pins s σ H Q I ⟨ρ, O, F, as, signsD l, _, r, sl, ?_, k⟩
        unfold mStrI
        rw [e1]
        show (if ascii l = true then _ else _) = _
        rw [if_pos hl]
      · cases hes
    · cases e
  | _ => cases e
theorem vic_seen {tg e : Expr} {m : M D} (h : SE X md P e m) : VIc X md P tg e (mList m) := (pi_list h).imp fun σ H Q q => by
  obtain ⟨ρ, O, F, as, ds, O', r, s, e, k⟩ := q
  obtain ⟨d, O1, e1, e⟩ := Res.bind_ok e
  cases d with
  | lst es =>
    cases e
    refine ⟨ρ, _, F, as, _, _, r, s, e1, fun v H1 F1 as1 g1 r1 hv => ?_⟩
    obtain ⟨a, xs, rfl, h1, h2⟩ : ∃ a xs, v = .ref a ∧ Rps X.K F1 as1 xs ds ∧ ∀ (H2 F2 : Hp) (as2 : List Addr), Gr H1 F1 as1 H2 F2 as2 → (∃ O, RlO X.K X.mg O H2 F2 as2) → RdK X.K H2 a xs := by
      rcases hv with hv | ⟨a, xs, ds', rfl, e, e3, e4, e6⟩
      · obtain ⟨a, xs, rfl, h1, h2⟩ := hv.unL
        exact ⟨a, xs, rfl, h2, fun H2 F2 as2 g ⟨O, r⟩ => (h1.mono g.ff).mono r.fh⟩
      · cases e
        exact ⟨a, xs, rfl, e6, fun H2 F2 as2 g _ => .inl (.inl (g.fr _ _ e3 e4 rfl))⟩
    refine ⟨a, rfl, ⟨xs, (h2 H1 F1 as1 Gr.refl ⟨_, r1⟩).sq⟩, k _ H1 F1 as1 g1 r1 ⟨fun i d H2 F2 as2 g r e => ?_, fun H2 F2 as2 g r => ⟨xs, (h2 H2 F2 as2 g r).sq, by rw [h1.length]; exact Nat.le_refl _⟩⟩⟩
    obtain ⟨x, h3, h4⟩ := h1.get' e
    have q := h2 H2 F2 as2 g r
    refine ⟨⟨xs, x, q.sq, h3⟩, fun y H3 hy => ?_⟩
    obtain ⟨rfl, hy⟩ := hy
    have := hy xs q.sq
    rw [h3] at this
    cases this
    exact ⟨F2, Gr.refl, fun _ r => r, h4.gr g⟩
  | _ => cases e
theorem vic_any {tg e : Expr} {m : M D} (h : SE X md P e m) : VIc X md P tg e (mIter m) := fun pins s σ H Q I q => by
  obtain ⟨ρ, O, F, as, ds, O', r, sl, e, k⟩ := q
  obtain ⟨d, O1, e1, e⟩ := Res.bind_ok e
  cases d with
  | lst es =>
    cases e
    exact vic_seen h pins s σ H Q I ⟨ρ, O, F, as, _, _, r, sl, by unfold mList; rw [e1]; rfl, k⟩
  | tup es =>
    cases e
    exact vic_vi (vi_tup (ve_se h)) pins s σ H Q I ⟨ρ, O, F, as, _, _, r, sl, by unfold mTupI mG; rw [e1]; rfl, k⟩
  | str l =>
    simp only [iterD] at e
    split at e
    · rename_i es hes
      split at hes
      · rename_i hl
        cases hes
        cases e
        refine vic_vi (vi_str h) pins s σ H Q I ⟨ρ, O, F, as, signsD l, _, r, sl, ?_, k⟩
        unfold mStrI
        rw [e1]
        show (if ascii l = true then _ else _) = _
        rw [if_pos hl]
      · cases hes
    · cases e
  | _ => cases e
def mEnum (m : M D) : M (List D) := fun ρ O => (m ρ O).bind fun d O1 => match d with
  | .lst ds => .ok (enumD 0 ds) O1
  | .str l => if ascii l = true then .ok (enumD 0 (signsD l)) O1 else .no
  | _ => .no
variable {elts : List Expr} {x1 : Nat} {tpos : Pos}
theorem vi_enum {a : Expr} {p pos : Pos} {m : M D} (hm : X.mg "enumerate" = none) (h : WE X md P a m) (hg : Gl X "enumerate" := by rfl) (hs : starEach [a] X.env = [(false, eval a X.env)] := by exact star1 rfl) (hs' : starEach [a] X.env = (false, eval a X.env) :: starEach [] X.env := by exact starC rfl) :
    VI X md P (.Tuple elts x1 tpos) (.Call (.Name "enumerate" p) [a] [] pos) (mEnum m) := fun pins s σ H Q I q => by
  obtain ⟨ρ, O, F, as, ds, O', r, sl, e, k⟩ := q
  obtain ⟨d, O1, e1, e⟩ := Res.bind_ok e
  cases d with
  | lst es =>
    cases e
    exact vi_enumL hm h hg hs hs' pins s σ H Q I ⟨ρ, O, F, as, _, _, r, sl, by unfold mEnumL; rw [e1]; rfl, k⟩
  | str l => exact vi_enumS hm (se_we h) hg hs hs' pins s σ H Q I ⟨ρ, O, F, as, ds, O', r, sl, by unfold mEnumS; rw [e1]; exact e, k⟩
  | _ => cases e
end
end L2
namespace L2
open PySem PySem.Spec PyProof.Rows
theorem law_callR {P : Program} {w : World} {K : PySem.W.Frag} {mg mb : Str → Option Value} {CX : CXT} {k : Nat} {fa a : Addr} {fd : FuncData} {x : Str} {sp : Sp} {s₁ : Shared} {vs : List Value} {ns : List Int}
    (KX : K.In s₁.heap) (hns : s₁.heap.Ns mainGlobals mg) (hb : s₁.heap.Ns builtinsNs mb) (hbb : ∀ x : Str, x ≠ "__name__" → mb x = bootBuiltins x) (hlim : s₁.heap.NoLimit) (hg : s₁.gens = #[])
    (ha : s₁.heap.get? a = some { cls := .type "list", data := .seq vs.toArray }) (hi : IntsAre vs ns) (hl : ns.length ≤ sizeLine) (hr : Room k callerA)
    (F : ∀ base : Heap, K.In base → base.Ns mainGlobals mg → FnOk P w K mg base CX k fa fd [x] sp) (hbind : ∀ (s : Shared) (u : Value), BindsTo s fd ⟨[u], []⟩ [(x, u)])
    (hsp : ∀ H : Hp, Only H → RdK K H a (ns.map V.int) → sp [.ref a] H (fun v _ => v = .bl true) fun _ _ _ => False)
    (hCX : ∀ H e s', CX [] H s₁ (fun _ _ _ => False) e s' → False) :
    codeAny (model P w) callerA (.call (.ref fa) ⟨[.ref a], []⟩) (fun r s' => r = .ok (.ret (.bool true)) ∧ OldK s₁.heap s'.heap ∧ s'.os = s₁.os ∧ AllBare s'.gens) s₁ := by
  have rv := vals_ints hi
  have lenV := hi.length
  have core : ∀ H : Hp, Only H → RdK K H a (ns.map V.int) → HOk P w H s₁.heap → (∀ b, H b ≠ none → b = a) → (H a ≠ none → K.lookup a = none) →
      codeAny (model P w) callerA (.call (.ref fa) ⟨[.ref a], []⟩) (fun r s' => r = .ok (.ret (.bool true)) ∧ OldK s₁.heap s'.heap ∧ s'.os = s₁.os ∧ AllBare s'.gens) s₁ := by
    intro H hO hS hok hA hK
    have base_of : ∀ {b : Addr} {o : Obj}, s₁.heap.get? b = some o → H b = none → (hidT s₁.heap H).get? b = some o := fun e n => hidT_get e n
    have noA : ∀ {b : Addr} {o : Obj} {es : Array DictEntry} {ep : Nat}, s₁.heap.get? b = some o → o.data = .dict es ep → H b = none := fun {b o es ep} e d => by
      cases q : H b with
      | none => rfl
      | some u =>
        have e' : b = a := hA b (by rw [q]; simp)
        subst e'
        rw [ha] at e; cases e
        have d' : Data.seq vs.toArray _ = Data.dict es ep := d
        cases d'
    have nsK : ∀ {b : Addr} {m : Str → Option Value}, s₁.heap.Ns b m → (hidT s₁.heap H).Ns b m := fun {b m} ⟨o, es, ep, e, d, r⟩ => ⟨o, es, ep, base_of e (noA e d), d, r⟩
    have hKb : K.In (hidT s₁.heap H) := fun b o e => base_of (KX b o e) (by
      cases q : H b with
      | none => rfl
      | some u =>
        have e' : b = a := hA b (by rw [q]; simp)
        subst e'
        rw [hK (by rw [q]; simp)] at e; cases e)
    have hM : Mod K mg (hidT s₁.heap H) := ⟨hKb, nsK hns, ⟨mb, nsK hb, hbb⟩, let ⟨mc, h1, h2⟩ := hlim; ⟨mc, nsK h1, h2⟩⟩
    have e0 : Env0 P w K mg (hidT s₁.heap H) callerA [] s₁ H := ⟨rfl, hM, fun b o e => of_hidT e, Nat.le_of_eq (hidT_size _ _), trivial, fun b hb => absurd (show b ∈ ([] : List Addr) from hb) (by simp), hok, .of_eq hg⟩
    refine codeAny_mono ((F _ hKb (nsK hns)).run callerA [] s₁ H ⟨[.ref a], []⟩ [.ref a] [.ref a] _ _ hr e0 (hbind s₁ (.ref a)) (.cons rfl .nil) (hsp H hO hS)) fun r s' h => ?_
    cases r with
    | error e => exact (hCX H e s' h).elim
    | ok fl =>
      cases fl with
      | next => exact False.elim h
      | brk => exact False.elim h
      | cont => exact False.elim h
      | ret u =>
        obtain ⟨v, H', os, bare, un, hok', r', q⟩ := h
        have q' : v = .bl true := q
        subst q'
        obtain rfl : u = Value.bool true := r'
        refine ⟨rfl, OldK.of_keep fun b o e => ?_, os, bare⟩
        cases q : H b with
        | none => exact un.keep b o e q (by intro z; exact absurd (show b ∈ ([] : List Addr) from z) (by simp)) (by simp)
        | some u =>
          rcases hO b with z | ⟨ob, xs, z⟩
          · rw [q] at z; cases z
          · have z2 := un.frzs b ob _ z
            obtain ⟨e1, _⟩ := hok b _ z
            obtain ⟨e2, _⟩ := hok' b _ z2
            rw [e] at e1; cases e1
            exact e2
  cases hk : K.lookup a with
  | some o =>
    have e := KX a o hk
    rw [ha] at e
    cases e
    refine core (fun _ => none) (fun _ => .inl rfl) (.inr ⟨vs, _, hk, by rw [lenV]; exact hl, rv⟩) (fun b u z => by have z' : (none : Option HO) = some u := z; cases z') (fun b z => absurd rfl z) fun z => absurd rfl z
  | none =>
    refine core (fun b => if b = a then some (.frz { cls := .type "list", data := .seq vs.toArray } (.lst (ns.map V.int))) else none) (fun b => ?_) (.inl (.inr ⟨{ cls := .type "list", data := .seq vs.toArray }, if_pos rfl⟩)) (fun b u z => ?_) (fun b z => ?_) fun _ => hk
    · by_cases hb : b = a
      · exact .inr ⟨_, _, if_pos hb⟩
      · exact .inl (if_neg hb)
    · by_cases hb : b = a
      · have z' := (if_pos hb).symm.trans z
        cases z'
        subst hb
        exact ⟨ha, by rw [List.length_map]; exact hl, vs, _, rv, ha⟩
      · have z' := (if_neg hb).symm.trans z
        cases z'
    · by_cases hb : b = a
      · exact hb
      · exact absurd (if_neg hb) z
theorem walk_ofR {l : PySem.W.OpenLaw} {n k : Nat} {q : Program} {loose : List Str} {XP : (Str → Option Value) → Heap → Prop} {YP : World → Heap → Prop} {d : DefRec} {K : Params → PySem.W.Frag} {CX : World → CXT} {sp : World → Sp} {x : Str}
    (hn : l.most = some n) (hn2 : n ≤ sizeLine) (hdf : d.params.defaults = []) (hr : Room k callerA)
    (hY : ∀ (w : World) (h : Heap), YP w h → (K w.params).In h)
    (F : ∀ (w : World) (mg : Str → Option Value) (fa : Addr) (h : Heap), (K w.params).In h → h.Ns mainGlobals mg → mg d.name = some (.ref fa) →
      ∃ fd : FuncData, (∀ (s : Shared) (u : Value), BindsTo s fd ⟨[u], []⟩ [(x, u)]) ∧
        ∀ base : Heap, (K w.params).In base → base.Ns mainGlobals mg → FnOk l.prog w (K w.params) mg base (CX w) k fa fd [x] (sp w))
    (hsp : ∀ (w : World) (H : Hp) (a : Addr) (ns : List Int), ns.length ≤ n → Only H → RdK (K w.params) H a (ns.map V.int) → sp w [.ref a] H (fun v _ => v = .bl true) fun _ _ _ => False)
    (hCX : ∀ (w : World) (H : Hp) (s : Shared) (e : Value) (s' : Shared), CX w [] H s (fun _ _ _ => False) e s' → False) :
    PySem.W.WalkO q loose XP YP l.row.toRowW d [] (fun f vs => PySem.call f vs) := by
  refine Att.attach_call hn hdf fun w s₀ s₁ mg mb fa o pm cd doc a vs ns G Y ho hd hcd hmg hobj hints hlen hg => ?_
  have KX := hY w _ Y
  obtain ⟨fd, hb, hF⟩ := F w mg fa _ KX G.T.g hmg
  exact law_callR KX G.T.g G.T.b G.T.builtins G.T.nolimit hg hobj hints (Nat.le_trans hlen hn2) hr hF hb (fun H hO hS => hsp w H a ns hlen hO hS) fun H e s' => hCX w H s₁ e s'
theorem kc_nil {K : Frag} {mg : Str → Option Value} {f : Str} : ∀ c ∈ ([] : List Str), KC K mg c f := fun _ h => nomatch h
theorem kc_cons {K : Frag} {mg : Str → Option Value} {f c : Str} {cs : List Str} (h : KC K mg c f) (hr : ∀ c ∈ cs, KC K mg c f) : ∀ c' ∈ c :: cs, KC K mg c' f := fun c' hc => by
  rcases List.mem_cons.mp hc with rfl | hc
  · exact h
  · exact hr c' hc
def wF : Nat := 1000000
def sp_law (K : Frag) : Sp := fun vs H Q _ => ∃ (a : Addr) (ns : List Int), vs = [.ref a] ∧ RdK K H a (ns.map V.int) ∧ ns.length ≤ 63 ∧ Only H ∧ ∀ H', Q (.bl true) H'
theorem Rps.ofInts {K : Frag} {F : Hp} {as : List Addr} : ∀ ns : List Int, Rps K F as (ns.map V.int) (ns.map D.int)
  | [] => Rps.nil
  | n :: ns => Rps.cons Rp.int (Rps.ofInts ns)
theorem law_spV {K : Frag} {mg : Str → Option Value} {c : List D → Store → Res D} (h : ∀ ns : List Int, ns.length ≤ 63 → ∃ O', c [.lst (ns.map D.int)] [] = .ok (.bl true) O') : ∀ vs H Q E, sp_law K vs H Q E → vSp K mg [.s] (rV K) c vs H Q E := by
  rintro vs H Q E ⟨a, ns, rfl, hS, hl, hO, q⟩
  obtain ⟨O', e⟩ := h ns hl
  have r : RlO K mg [] H H [] := ⟨Same.refl H, fun b o e => by
    rcases hO b with z | ⟨o', xs, z⟩
    · rw [e] at z; cases z
    · rw [e] at z; cases z; rfl, List.nodup_nil, rfl, (fun _ z => nomatch z), fun n b o z => by cases z⟩
  refine ⟨[.lst (ns.map D.int)], [], H, [], .bl true, O', r, ⟨.inl (Rp.mkL hS (Rps.ofInts ns)), trivial⟩, e, fun v H' F' as' g r' hv => ?_⟩
  rw [Rp.unB hv]
  exact q H'
end L2
namespace L2
open PySem PySem.Spec PyProof.Rows
def keyOf : D → Option Key
  | .int i => some (.inl i)
  | .str l => some (.inr (S l))
  | _ => none
section
variable {X : Cx} {md : List Md} {P : Pt}
def Prs (K : Frag) (F : Hp) (as : List Addr) : List (V × V) → List (D × D) → Prop
  | [], [] => True
  | p :: ps, d :: ds => Rp K F as p.1 d.1 ∧ Rp K F as p.2 d.2 ∧ Prs K F as ps ds
  | _, _ => False
def DPE (X : Cx) (md : List Md) (P : Pt) (pos : Pos) (keys : List (Option Expr)) (values : List Expr) (m : M (List (D × D))) : Prop := ∃ trs : List (TE × TE),
  PPs X pos keys values trs ∧ ∀ σ H Q, (∃ ρ O F as kv O', RlO X.K X.mg O H F as ∧ SlO X.K md P ρ σ H F as ∧ m ρ O = .ok kv O' ∧ ∀ ps H' F' as', Gr H F as H' F' as' → RlO X.K X.mg O' H' F' as' → Prs X.K F' as' ps kv → Q ps H') → tPairs trs σ H Q
def mpNil : M (List (D × D)) := fun _ O => .ok [] O
def mpCons (mk mv : M D) (r : M (List (D × D))) : M (List (D × D)) := fun ρ O => (mk ρ O).bind fun a O1 => (mv ρ O1).bind fun b O2 => (r ρ O2).bind fun ps O3 => .ok ((a, b) :: ps) O3
def keysOf : List (D × D) → Option (List Key)
  | [] => some []
  | (a, _) :: r => (keyOf a).bind fun k => (keysOf r).map (k :: ·)
def mDisp (m : M (List (D × D))) : M D := fun ρ O => (m ρ O).bind fun kv O1 => match keysOf kv with
  | some ks => if ks.Nodup ∧ kv.length ≤ 15 then .ok (.dic (kv.map (·.1)) (kv.map (·.2))) O1 else .no
  | none => .no
end
section
variable {X : Cx} {md : List Md} {P : Pt} {k : Nat} {c x m : Str} {ps : List Str} {p pos apos : Pos} {o e : Expr} {es : List Expr} {pm : List Md} {cf : List D → Store → Res D} {mo : M D} {ma : M (List D)}
theorem ve_call (C : Can X.prog X.w X.K X.mg X.base x ps k (vSp X.K X.mg pm (rV X.K) cf)) (hr : Room k X.A) (ha : AE X md P pm (e :: es) ma) (hg : Gl X x := by rfl) (hdb : (x == ("__debug__" : Str)) = false := by decide) (he : starEach (e :: es) X.env = (false, eval e X.env) :: starEach es X.env := by exact starC rfl) (hpl : (backTo pos (starEach es X.env)).any (·.1) = false := by exact starAny rfl) :
    VE X md P (.Call (.Name x p) (e :: es) [] pos) (mCall cf ma) := xe_call rV_ok C hr ha hg hdb he hpl
theorem oe_call (C : Can X.prog X.w X.K X.mg X.base x ps k (vSp X.K X.mg pm (rO X.K) cf)) (hr : Room k X.A) (ha : AE X md P pm (e :: es) ma) (hg : Gl X x := by rfl) (hdb : (x == ("__debug__" : Str)) = false := by decide) (he : starEach (e :: es) X.env = (false, eval e X.env) :: starEach es X.env := by exact starC rfl) (hpl : (backTo pos (starEach es X.env)).any (·.1) = false := by exact starAny rfl) :
    OE X md P (.Call (.Name x p) (e :: es) [] pos) (mCall cf ma) := xe_call rO_ok C hr ha hg hdb he hpl
theorem oe_meth {pl : Sem Bool} (M : CanM X.prog X.w X.K X.mg X.base c m ps k (vSp X.K X.mg (.v :: pm) (rO X.K) cf)) (hr : Room k X.A) (ho : VE X md P o mo) (ha : AE X md P pm (e :: es) ma) (hst : starEach (e :: es) X.env = (false, eval e X.env) :: starEach es X.env := by exact starC rfl) (hpl : (backTo pos (starEach es X.env)).any (·.1) = false := by exact starAny rfl)
    (ht : eval (.Call (.Attribute o m apos) (e :: es) [] pos) X.env = (do
      let ov ← eval o X.env
      standAt apos.atName
      let (f, first) ← holding [ov] (getMethod ov m pl)
      callWith pos f first (backTo pos (starEach (e :: es) X.env)) (backToKw pos (keywordEach [] X.env))) := by rfl) : OE X md P (.Call (.Attribute o m apos) (e :: es) [] pos) (mMeth c m cf mo ma) := xe_meth rO_ok M hr ho ha hst hpl ht
theorem ve_meth0 {pl : Sem Bool} (M : CanM X.prog X.w X.K X.mg X.base c m ps k (vSp X.K X.mg [.v] (rV X.K) cf)) (hr : Room k X.A) (ho : VE X md P o mo)
    (ht : eval (.Call (.Attribute o m apos) [] [] pos) X.env = (do
      let ov ← eval o X.env
      standAt apos.atName
      let (f, first) ← holding [ov] (getMethod ov m pl)
      callWith pos f first (backTo pos (starEach [] X.env)) (backToKw pos (keywordEach [] X.env))) := by rfl) : VE X md P (.Call (.Attribute o m apos) [] [] pos) (mMeth c m cf mo maNil) := xe_meth0 rV_ok M hr ho ht
theorem oe_meth0 {pl : Sem Bool} (M : CanM X.prog X.w X.K X.mg X.base c m ps k (vSp X.K X.mg [.v] (rO X.K) cf)) (hr : Room k X.A) (ho : VE X md P o mo)
    (ht : eval (.Call (.Attribute o m apos) [] [] pos) X.env = (do
      let ov ← eval o X.env
      standAt apos.atName
      let (f, first) ← holding [ov] (getMethod ov m pl)
      callWith pos f first (backTo pos (starEach [] X.env)) (backToKw pos (keywordEach [] X.env))) := by rfl) : OE X md P (.Call (.Attribute o m apos) [] [] pos) (mMeth c m cf mo maNil) := xe_meth0 rO_ok M hr ho ht
end
end L2
namespace L2
open PySem PySem.Spec PyProof.Rows
def Itz (K : Frag) (l1 l2 : Addr) : It := ⟨fun i H => ∃ xs ys x y, SqL K H l1 xs ∧ SqL K H l2 ys ∧ xs[i]? = some x ∧ ys[i]? = some y,
  fun i H v H' => ∃ T x y, v = .ref T ∧ H T = none ∧ H' = upd H T (.tup [x, y]) ∧ (∀ xs, SqL K H l1 xs → xs[i]? = some x) ∧ ∀ ys, SqL K H l2 ys → ys[i]? = some y,
  fun i H => ∃ xs ys, SqL K H l1 xs ∧ SqL K H l2 ys ∧ (xs.length ≤ i ∨ ys.length ≤ i)⟩
theorem turn_zip {P : Program} {w : World} {K : Frag} {elts : List Expr} {x1} {pos : Pos} (z TI TO i1 i2 l1 l2 : Addr) (D : ZipApart z TI TO i1 i2 l1 l2) : Turn P w K (.Tuple elts x1 pos) (Itz K l1 l2) [z, TI, TO, i1, i2] z
    (fun i h => IsZip h z TI TO .none ∧ IsPair h TI (.ref i1) (.ref i2) ∧ (∃ a b, IsPair h TO a b) ∧ h.IsListIter i1 l1 i ∧ h.IsListIter i2 l2 i) where
  mem := by simp
  obj := fun i h st b hb => by
    obtain ⟨hz, hTI, ⟨a, b', hTO⟩, ⟨o1, ho1, hc1, hd1⟩, ⟨o2, ho2, hc2, hd2⟩⟩ := st
    simp only [List.mem_cons, List.not_mem_nil, or_false] at hb
    rcases hb with rfl | rfl | rfl | rfl | rfl
    · exact obj_fields hz rfl
    · exact ⟨_, hTI, fun v z => nomatch z⟩
    · exact ⟨_, hTO, fun v z => nomatch z⟩
    · exact obj_fields ho1 hd1
    · exact obj_fields ho2 hd2
  keep := fun i h h' st k => by
    obtain ⟨hz, hTI, ⟨a, b', hTO⟩, h1, h2⟩ := st
    exact ⟨k z (by simp) _ hz, k TI (by simp) _ hTI, ⟨a, b', k TO (by simp) _ hTO⟩, h1.at fun o e => k i1 (by simp) o e, h2.at fun o e => k i2 (by simp) o e⟩
  item := by
    intro X hP hw hK hc i pins s σ H E I hf st hg
    subst hP hw hK
    obtain ⟨hz, hTI, ⟨a, b', hTO⟩, h1, h2⟩ := st
    obtain ⟨xs, ys, x, y, hq1, hq2, hx, hy⟩ := hg
    obtain ⟨its1, rv1, pl1, hz1⟩ := I.list hq1
    obtain ⟨its2, rv2, pl2, hz2⟩ := I.list hq2
    obtain ⟨u1, hu1, ru1⟩ := rv1.get hx
    obtain ⟨u2, hu2, ru2⟩ := rv2.get hy
    have hT : H s.heap.objs.size = none := I.hok.fresh (Nat.le_refl _)
    have elt : z < s.heap.objs.size := Heap.lt_size hz
    refine wpAny_pyNext_zip_item D hz hTI hTO h1 h2 pl1.isList pl2.isList (x := u1) (y := u2) (by simpa using hu1) (by simpa using hu2) fun h' a1 a2 a3 a4 a5 a6 hk => ⟨_, rfl, ?_⟩
    refine wpAny_letOwnedTupleGo_zip a1 fun h'' hz'' hs'' => ⟨.ref s.heap.objs.size, _, ?_, rfl, ⟨s.heap.objs.size, x, y, rfl, hT, rfl, fun ys' hy' => by rw [I.list_inj hy' hq1]; exact hx, fun ys' hy' => by rw [I.list_inj hy' hq2]; exact hy⟩, ⟨hz'', hs''.extBut _ _ D.TIz (hk _ _ D.TIz D.TITO D.TIi1 D.TIi2 hTI), ⟨_, _, hs''.extBut _ _ D.TOz a2⟩, a3.extBut hs''.extBut D.i1z, a4.extBut hs''.extBut D.i2z⟩, fun b hb => ?_⟩
    · show Inv X pins σ _ { s with heap := h'', toks := s.toks }
      refine I.turnT (ch := [z, TI, TO, i1, i2]) (us := [u1, u2]) hf (fun b o hb q => ?_) (Nat.le_refl _) ⟨_, hs''.extBut _ _ (Nat.ne_of_gt elt) a5, rfl, _, rfl⟩ (.cons ru1 (.cons ru2 .nil)) (by show 2 ≤ sizeLine; decide)
      have n1 : b ≠ z := fun e => hb (by simp [e])
      have n2 : b ≠ TO := fun e => hb (by simp [e])
      have n3 : b ≠ i1 := fun e => hb (by simp [e])
      have n4 : b ≠ i2 := fun e => hb (by simp [e])
      exact hs''.extBut _ _ n1 (hk b o n1 n2 n3 n4 q)
    · have q := hf b hb
      rw [upd_ne (fun e => ?_)]
      · exact q.1
      · obtain ⟨o, ho⟩ : ∃ o, s.heap.get? b = some o := by
          obtain ⟨o1, ho1, _⟩ := h1
          obtain ⟨o2, ho2, _⟩ := h2
          simp only [List.mem_cons, List.not_mem_nil, or_false] at hb
          rcases hb with rfl | rfl | rfl | rfl | rfl
          · exact ⟨_, hz⟩
          · exact ⟨_, hTI⟩
          · exact ⟨_, hTO⟩
          · exact ⟨_, ho1⟩
          · exact ⟨_, ho2⟩
        exact absurd (Heap.lt_size ho) (by rw [e]; exact Nat.lt_irrefl _)
  done := by
    intro X hP hw hK hc i pins s σ H E I hf st hg
    subst hP hw hK
    obtain ⟨hz, hTI, ⟨a, b', hTO⟩, h1, h2⟩ := st
    obtain ⟨xs, ys, hq1, hq2, hl⟩ := hg
    obtain ⟨its1, rv1, pl1, hz1⟩ := I.list hq1
    obtain ⟨its2, rv2, pl2, hz2⟩ := I.list hq2
    have l1 := rv1.length
    have l2 := rv2.length
    refine wpAny_pyNext_zip_end (I.ok.hd hc) D hz hTI hTO h1 h2 pl1.isList pl2.isList (by
      rcases hl with hl | hl
      · left; simp; omega
      · right; simp; omega) fun h' hx => ⟨rfl, ?_⟩
    exact I.turnL (t' := s.toks) (ch := [z, TI, TO, i1, i2]) hf fun b o hb q => hx b o (fun e => hb (by simp [e])) (fun e => hb (by simp [e])) (fun e => hb (by simp [e])) (fun e => hb (by simp [e])) q
  self := fun A i s Q E st h => wpAny_pyIter_zip st.1 h
section
variable {X : Cx} {md : List Md} {P : Pt} {R : RR} {elts : List Expr} {x1 : Nat} {tpos : Pos}
def iZip (K : Frag) (ta : TA) : TI := fun σ H R => ta σ H fun vs H1 => ∃ a b, vs = [.ref a, .ref b] ∧ (∃ xs, SqL K H1 a xs) ∧ (∃ ys, SqL K H1 b ys) ∧ R (Itz K a b) H1
theorem pi_zip {a b : Expr} {ta : TA} {p pos : Pos} (hg : Gl X "zip") (hm : X.mg "zip" = none) (ha : PA X [a, b] ta) (hs : starEach [a, b] X.env = (false, eval a X.env) :: starEach [b] X.env := by exact starC rfl) (hpl : (backTo pos (starEach [b] X.env)).any (·.1) = false := by exact starAny rfl) :
    PI X (.Tuple elts x1 tpos) (.Call (.Name "zip" p) [a, b] [] pos) (iZip X.K ta) := by
  intro pins s σ H R I h
  refine Call_ (ld_blt I hg hm boot_zip (PyProof.Rows.callWith_type1 (thn (ha pos pins s σ H _ I h) fun us s1 ⟨vs, H1, I1, r1, q1⟩ => ?_) hs hpl))
  obtain ⟨l1, l2, e, ⟨xs, hq1⟩, ⟨ys, hq2⟩, q⟩ := q1
  subst e
  obtain ⟨u1, u2, rfl, ru1, ru2⟩ := vals2 r1
  cases ru1
  cases ru2
  obtain ⟨its1, rv1, pl1, hz1⟩ := I1.list hq1
  obtain ⟨its2, rv2, pl2, hz2⟩ := I1.list hq2
  have a1 : l1 < s1.heap.objs.size := by obtain ⟨_, e, _⟩ := pl1.isList; exact Heap.lt_size e
  have a2 : l2 < s1.heap.objs.size := by obtain ⟨_, e, _⟩ := pl2.isList; exact Heap.lt_size e
  refine call_zip_2 pl1.isList pl2.isList fun h' hz hTI hTO hit1 hit2 hsz hk => wpAny_pyIter_zip hz ?_
  refine ⟨s1.heap.objs.size + 4, [s1.heap.objs.size + 4, s1.heap.objs.size + 2, s1.heap.objs.size + 3, s1.heap.objs.size, s1.heap.objs.size + 1], _, _, H1, rfl, I1.kept (t' := s1.toks) hk, turn_zip _ _ _ _ _ l1 l2 (zipApart_new a1 a2), ⟨hz, hTI, ⟨_, _, hTO⟩, hit1, hit2⟩, fun b hb => ?_, q⟩
  have hb' : s1.heap.objs.size ≤ b := by
    simp only [List.mem_cons, List.not_mem_nil, or_false] at hb
    rcases hb with rfl | rfl | rfl | rfl | rfl
    · exact Nat.le_add_right _ _
    · exact Nat.le_add_right _ _
    · exact Nat.le_add_right _ _
    · exact Nat.le_refl _
    · exact Nat.le_add_right _ _
  exact I1.fpOk hb' (I1.hok.fresh hb')
def zipD : List D → List D → List D
  | d :: ds, e :: es => .tup [d, e] :: zipD ds es
  | _, _ => []
theorem zipD_get : ∀ (ds es : List D) (i : Nat) (x : D), (zipD ds es)[i]? = some x → ∃ d e, ds[i]? = some d ∧ es[i]? = some e ∧ x = .tup [d, e]
  | [], es, i, x, h => by simp [zipD] at h
  | d :: ds, [], i, x, h => by simp [zipD] at h
  | d :: ds, e :: es, 0, x, h => by
    simp [zipD] at h
    exact ⟨d, e, rfl, rfl, h.symm⟩
  | d :: ds, e :: es, i + 1, x, h => by
    obtain ⟨d', e', h1, h2, h3⟩ := zipD_get ds es i x (by simpa [zipD] using h)
    exact ⟨d', e', by simpa using h1, by simpa using h2, h3⟩
theorem zipD_len : ∀ (ds es : List D), ds.length ≤ (zipD ds es).length ∨ es.length ≤ (zipD ds es).length
  | [], es => .inl (Nat.zero_le _)
  | d :: ds, [] => .inr (Nat.zero_le _)
  | d :: ds, e :: es => by
    rcases zipD_len ds es with h | h
    · left; simp [zipD]; exact h
    · right; simp [zipD]; exact h
def mZip (ma mb : M D) : M (List D) := fun ρ O => (ma ρ O).bind fun d O1 => (mb ρ O1).bind fun e O2 => match d, e with
  | .lst ds, .lst es => .ok (zipD ds es) O2
  | _, _ => .no
theorem vi_zip {a b : Expr} {p pos : Pos} {ma mb : M D} (hm : X.mg "zip" = none) (h : WE X md P a ma) (h' : WE X md P b mb) (hg : Gl X "zip" := by rfl) (hs : starEach [a, b] X.env = (false, eval a X.env) :: starEach [b] X.env := by exact starC rfl) (hs' : starEach [b] X.env = (false, eval b X.env) :: starEach [] X.env := by exact starC rfl) (hpl : (backTo pos (starEach [b] X.env)).any (·.1) = false := by exact starAny rfl) :
    VI X md P (.Tuple elts x1 tpos) (.Call (.Name "zip" p) [a, b] [] pos) (mZip ma mb) := (pi_zip hg hm (pa_cons h (pa_cons h' pa_nil hs') hs) hs hpl).imp fun σ H Q q => by
  obtain ⟨ρ, O, F, as, ds, O', r, s, e, k⟩ := q
  obtain ⟨d1, O1, e1, e⟩ := Res.bind_ok e
  obtain ⟨d2, O2, e2, e⟩ := Res.bind_ok e
  cases d1 with
  | lst ds1 =>
    cases d2 with
    | lst ds2 =>
      cases e
      refine ⟨ρ, _, F, as, _, _, r, s, e1, fun v H1 F1 as1 g1 r1 hv => ?_⟩
      refine ⟨ρ, _, F1, as1, _, _, r1, s.step g1, e2, fun u H2 F2 as2 g2 r2 hu => ?_⟩
      obtain ⟨a, xs, rfl, h1, h2⟩ := jok_w (mg := X.mg) hv
      obtain ⟨b, ys, rfl, h3, h4⟩ := jok_w (mg := X.mg) hu
      have h2' : ∀ (H3 F3 : Hp) (as3 : List Addr), GrS P H2 F2 as2 H3 F3 as3 → (∃ O, RlO X.K X.mg O H3 F3 as3) → RdK X.K H3 a xs := fun H3 F3 as3 g r => h2 H3 F3 as3 (g2.toS.trans g) r
      have h1' := h1.gr g2
      refine ⟨a, b, rfl, ⟨xs, (h2' H2 F2 as2 GrS.refl ⟨_, r2⟩).sq⟩, ⟨ys, (h4 H2 F2 as2 GrS.refl ⟨_, r2⟩).sq⟩, k _ H2 F2 as2 (g1.trans g2) r2 ⟨fun i d H3 F3 as3 g r e => ?_, fun H3 F3 as3 g r => ⟨xs, ys, (h2' H3 F3 as3 g r).sq, (h4 H3 F3 as3 g r).sq, ?_⟩⟩⟩
      · obtain ⟨x', y', q1, q2, rfl⟩ := zipD_get _ _ _ _ e
        obtain ⟨x, hx, rx⟩ := h1'.get' q1
        obtain ⟨y, hy, ry⟩ := h3.get' q2
        have sx := (h2' H3 F3 as3 g r).sq
        have sy := (h4 H3 F3 as3 g r).sq
        refine ⟨⟨xs, ys, x, y, sx, sy, hx, hy⟩, fun z H4 hz => ?_⟩
        obtain ⟨T, x2, y2, rfl, hT, rfl, hx2, hy2⟩ := hz
        have t1 := hx2 xs sx
        have t2 := hy2 ys sy
        rw [hx] at t1
        rw [hy] at t2
        cases t1
        cases t2
        exact pair_new r hT (Rps.cons (rx.grS g) (Rps.cons (ry.grS g) Rps.nil))
      · rw [h1'.length, h3.length]
        exact zipD_len ds1 ds2
    | _ => cases e
  | _ => cases e
def msFz (m : MS) : MS := fun ρ O => match m ρ O with
  | .rt d O' => .rt d O'
  | _ => .no
theorem SlO.toV {K : Frag} {ρ : DEnv} {σ : St} {H F F' : Hp} {as : List Addr} {i : Nat} (s : SlO K md P ρ σ H F as) (hm : md[i]? = some .o) (ff : Same F F')
    (hown : ∀ (j : Nat) (ds : List D) (a : Addr), j ≠ i → md[j]? = some .o → ρ[j]? = some (some (.lst ds)) → σ[j]? = some (some (.ref a)) → F' a = F a)
    (hv : ∀ d, ρ[i]? = some (some d) → ∃ v, σ[i]? = some (some v) ∧ Rp K F' as v d) : SlO K (md.set i .v) P ρ σ H F' as := by
  have hi : i < md.length := (List.getElem?_eq_some_iff.mp hm).1
  have back : ∀ (j : Nat), (md.set i Md.v)[j]? = some Md.o → j ≠ i ∧ md[j]? = some .o := fun j e => by
    by_cases hj : j = i
    · subst hj
      rw [List.getElem?_set_self hi] at e
      cases e
    · rw [List.getElem?_set_ne (Ne.symm hj)] at e
      exact ⟨hj, e⟩
  refine ⟨by rw [List.length_set]; exact s.len, by rw [List.length_set]; exact s.len', s.pd, fun j m d e1 e2 => ?_, fun j k a ds es h1 h2 h3 h4 h5 h6 => s.inj j k a ds es (back j h1).2 (back k h2).2 h3 h4 h5 h6, fun x hx => ?_⟩
  · by_cases hj : j = i
    · subst hj
      rw [List.getElem?_set_self hi] at e1
      cases e1
      exact hv d e2
    · rw [List.getElem?_set_ne (Ne.symm hj)] at e1
      obtain ⟨v, q, t⟩ := s.sl j m d e1 e2
      refine ⟨v, q, ?_⟩
      cases m with
      | v => exact Rp.mono ff (fun _ _ z => z) _ t
      | s =>
        rcases t with t | ⟨a, xs, ds, t1, t2, t3, t4, t5, t6⟩
        · exact .inl (Rp.mono ff (fun _ _ z => z) _ t)
        · exact .inr ⟨a, xs, ds, t1, t2, t3, t4, t5, Rps.mono ff (fun _ _ z => z) _ t6⟩
      | o =>
        rcases t with ⟨t0, t⟩ | ⟨a, xs, ds, rfl, rfl, t3, t0, t4, t5, t6⟩
        · exact .inl ⟨t0, Rp.mono ff (fun _ _ z => z) _ t⟩
        · exact .inr ⟨a, xs, ds, rfl, rfl, t3, by rw [hown j ds a hj e1 e2 q]; exact t0, t4, t5, Rps.mono ff (fun _ _ z => z) _ t6⟩
  · obtain ⟨p1, p2, p3⟩ := s.pin x hx
    have hne : i ≠ x.1 := fun z => by rw [← z, hm] at p1; cases p1
    exact ⟨by rw [List.getElem?_set_ne hne]; exact p1, p2, p3⟩
theorem frz_go {K : Frag} {mg : Str → Option Value} {i : Nat} {m : MS} (hm : md[i]? = some .o) {D : Ends} {σ : St} {H : Hp} (q : tMS K mg md P R (msFz m) D σ H) : tMS K mg (md.set i .v) P R m D σ H := by
  obtain ⟨ρ, O, F, as, r, s, k⟩ := q
  unfold msFz at k
  cases e : m ρ O with
  | rt d O' =>
    rw [e] at k
    by_cases hl : ∃ ds, ρ[i]? = some (some (.lst ds))
    · obtain ⟨ds, hρ⟩ := hl
      obtain ⟨a, xs, h1, h2, h3, h4, h5, h6⟩ := s.own hm hρ
      have ff : Same F (upd F a (.lst xs)) := fun b u q => by rw [upd_ne (ne_of_none q h3)]; exact q
      have g0 : GrS P H F as H (upd F a (.lst xs)) as := ⟨fun c _ p _ _ _ => upd_ne (fun z => h5 (by rw [← z]; exact p)), ff, ⟨[], by simp, fun _ h => nomatch h⟩, fun _ _ _ h _ _ => h, fun _ h => h, fun _ _ _ h => h⟩
      refine ⟨ρ, O, upd F a (.lst xs), as, r.frz h2 h3 h4 rfl, s.toV hm ff (fun j es b hj m1 m2 m3 => ?_) (fun d' hd' => ?_), ?_⟩
      · refine upd_ne fun z => hj ?_
        rw [z] at m3
        exact s.inj j i a es ds m1 hm m2 hρ m3 h1
      · rw [hρ] at hd'
        cases hd'
        exact ⟨_, h1, Rp.mkL (.inl (.inl upd_same)) (Rps.mono ff (fun _ _ z => z) _ h6)⟩
      · rw [e]
        exact fun v H' F' as' g r' hv => k v H' F' as' (g0.trans g) r' hv
    · refine ⟨ρ, O, F, as, r, s.toV hm (Same.refl F) (fun _ _ _ _ _ _ _ => rfl) (fun d' hd' => ?_), by rw [e]; exact k⟩
      obtain ⟨v, h1, h2⟩ := s.sl i .o d' hm hd'
      rcases h2 with ⟨_, h2⟩ | ⟨a, xs, ds, _, rfl, _⟩
      · exact ⟨v, h1, h2⟩
      · exact absurd ⟨ds, hd'⟩ hl
  | _ => rw [e] at k; exact False.elim k
theorem vs_frz (i : Nat) {st : Stmt} {m : MS} (hm : md[i]? = some .o) (h : VS X (md.set i .v) P R st m) : VS X md P R st (msFz m) := h.imp fun _ _ _ => frz_go hm
end
end L2
namespace L2
open PySem PySem.Spec PyProof.Rows
section
variable {prog : Program} {w : World} {A : Around} {E : Value → Shared → Prop}
end
section
variable {X : Cx} {md : List Md} {P : Pt} {R : RR}
def mMl (m : M D) : M D := fun ρ O => (m ρ O).bind fun d O1 => match d with
  | .lst ds => .ok (.ob O1.length) (O1 ++ [.ml ds])
  | d => .ok d O1
theorem at_snoc {as : List Addr} {a : Addr} : ∀ (n : Nat) (c : Addr), as[n]? = some c → (as ++ [a])[n]? = some c := fun n c h => by
  rw [List.getElem?_append_left (List.getElem?_eq_some_iff.mp h).1]; exact h
theorem RlO.snocMl {K : Frag} {mg : Str → Option Value} {O : Store} {H F : Hp} {as : List Addr} {a : Addr} {xs : List V} {ds : List D} (r : RlO K mg O H F as) (hH : H a = some (.lst xs)) (hF : F a = none) (ha : a ∉ as) (hx : Rps K F as xs ds) : RlO K mg (O ++ [.ml ds]) H F (as ++ [a]) := by
  refine ⟨r.fh, r.fd, List.nodup_append.mpr ⟨r.nd, by simp, fun c hc d hd => by rw [List.mem_singleton.mp hd]; exact fun z => ha (z ▸ hc)⟩, by rw [List.length_append, List.length_append, r.len]; rfl, fun c hc => ?_, fun n c o hc ho => ?_⟩
  · rcases List.mem_append.mp hc with hc | hc
    · exact r.fa c hc
    · rw [List.mem_singleton.mp hc]; exact hF
  · by_cases hn : n < as.length
    · rw [List.getElem?_append_left hn] at hc
      rw [List.getElem?_append_left (by rw [← r.len]; exact hn)] at ho
      exact (r.ob n c o hc ho).keep rfl (Same.refl F) at_snoc
    · have hn' : n = as.length := by
        have := (List.getElem?_eq_some_iff.mp hc).1
        rw [List.length_append, List.length_singleton] at this
        omega
      subst hn'
      rw [List.getElem?_append_right (Nat.le_refl _), Nat.sub_self] at hc
      rw [r.len, List.getElem?_append_right (Nat.le_refl _), Nat.sub_self] at ho
      cases hc
      cases ho
      exact ⟨xs, hH, Rps.mono (Same.refl F) at_snoc _ hx⟩
theorem ve_ml {e : Expr} {m : M D} (h : OE X md P e m) : VE X md P e (mMl m) := h.imp fun σ H Q q => by
  obtain ⟨ρ, O, F, as, d, O', r, s, e, k⟩ := q
  obtain ⟨x, O1, e1, e⟩ := Res.bind_ok e
  refine ⟨ρ, _, F, as, _, _, r, s, e1, fun v H1 F1 as1 g1 r1 hv => ?_⟩
  rcases hv with ⟨hn, hv⟩ | ⟨a, xs, ds, rfl, rfl, e3, e4, e5, e6, e7⟩
  · cases x with
    | lst ds => cases hn
    | _ => cases e; exact k v H1 F1 as1 g1 r1 hv
  · cases e
    obtain ⟨new, en, hnw⟩ := g1.nw
    refine k (.ref a) H1 F1 (as1 ++ [a]) ⟨g1.fz, g1.ff, ⟨new ++ [a], by rw [en, List.append_assoc], fun c hc => ?_⟩, g1.fr, g1.dm, g1.kz⟩ (r1.snocMl e3 e4 e5 e7) (Rp.mkO ?_)
    · rcases List.mem_append.mp hc with hc | hc
      · exact hnw c hc
      · rw [List.mem_singleton.mp hc]; exact e6
    · rw [← r1.len, List.getElem?_append_right (Nat.le_refl _), Nat.sub_self]
      rfl
theorem mutO_gr {H F : Hp} {as : List Addr} {a : Addr} {h : HO} (ha : a ∈ as) (hh : H a = some h) {o : HO} (hf : ∀ o u, h ≠ .frz o u := by intro _ _ z; cases z) : Gr H F as (upd H a o) F as :=
  ⟨fun _ _ _ _ _ => rfl, Same.refl F, ⟨[], by simp, fun _ h => nomatch h⟩, fun c u e hn _ => by rw [upd_ne (fun z => hn (by rw [z]; exact ha))]; exact e, fun c e => by
    by_cases h : c = a
    · subst h; rw [upd_same] at e; cases e
    · rwa [upd_ne h] at e, fun c o' u e => by rw [upd_ne (fun z => by rw [z, hh] at e; cases e; exact hf _ _ rfl)]; exact e⟩
theorem RlO.mutO {K : Frag} {mg : Str → Option Value} {O : Store} {H F : Hp} {as : List Addr} {n : Nat} {a : Addr} {xs : List V} {ds : List D} (r : RlO K mg O H F as) (hn : as[n]? = some a) (hx : Rps K F as xs ds) : RlO K mg (O.set n (.ml ds)) (upd H a (.lst xs)) F as := by
  have ha := List.mem_of_getElem? hn
  refine ⟨fun c u e => ?_, r.fd, r.nd, by rw [List.length_set]; exact r.len, r.fa, fun m c o hc ho => ?_⟩
  · rw [upd_ne (fun z => by rw [z, r.fa a ha] at e; cases e)]; exact r.fh c u e
  · by_cases hm : m = n
    · subst hm
      rw [hn] at hc
      cases hc
      have hlt : m < O.length := by rw [← r.len]; exact (List.getElem?_eq_some_iff.mp hn).1
      rw [List.getElem?_set_self hlt] at ho
      cases ho
      exact ⟨xs, upd_same, hx⟩
    · rw [List.getElem?_set_ne (Ne.symm hm)] at ho
      refine (r.ob m c o hc ho).keep (upd_ne fun z => hm ?_) (Same.refl F) fun _ _ h => h
      obtain ⟨q0, q1⟩ := List.getElem?_eq_some_iff.mp hc
      obtain ⟨p0, p1⟩ := List.getElem?_eq_some_iff.mp hn
      exact (List.getElem_inj r.nd).mp (q1.trans (z.trans p1.symm))
theorem RlO.ml {K : Frag} {mg : Str → Option Value} {O : Store} {H F : Hp} {as : List Addr} {n : Nat} {a : Addr} {ds : List D} (r : RlO K mg O H F as) (hn : as[n]? = some a) (hO : O[n]? = some (.ml ds)) : ∃ xs, H a = some (.lst xs) ∧ Rps K F as xs ds := r.ob n a _ hn hO
def msAppO (mo m : M D) : MS := fun ρ O => match mo ρ O with
  | .ok (.ob n) O1 => match O1[n]? with
    | some (.ml _) => match m ρ O1 with
      | .ok d O2 => match O2[n]? with
        | some (.ml ds) => if ds.length < 1000000 then .nx ρ (O2.set n (.ml (ds ++ [d]))) else .no
        | _ => .no
      | _ => .no
    | _ => .no
  | _ => .no
theorem vs_appO {o e : Expr} {apos cpos pos : Pos} {mo m : M D} (ho : VE X md P o mo) (h : VE X md P e m)
    (hbase : attributeBase o "append" X.env (eval o X.env) = eval o X.env := by rfl)
    (hfew : ((backTo cpos (starEach [e] X.env)).all (fun x => !x.1) && (backToKw cpos (keywordEach [] X.env)).all (fun x => x.1.isSome) && decide ([e].length + ([] : List Keyword).length + (if ([] : List Keyword).isEmpty then 0 else 1) < 30)) = true := by rfl)
    (hline : (apos.endLine == cpos.line) = true := by rfl) (hs : starEach [e] X.env = (false, eval e X.env) :: starEach [] X.env := by exact starC rfl) (hplain : (backTo cpos (starEach [] X.env)).any (·.1) = false := by exact starAny rfl)
    (hsw : swapsWith (.Call (.Attribute o "append" apos) [e] [] cpos) none pos.line X.env = pure false := by rfl) :
    VS X md P R (.Expr (.Call (.Attribute o "append" apos) [e] [] cpos) pos) (msAppO mo m) :=
  (ps_expr (pe_bm PySem.F.plainAttrs_list PySem.F.slot_list_append PySem.F.type_list_append mt_append ho (pa_cons h pa_nil hs) hbase hfew hline hs hplain) hsw).imp fun D σ H q => by
    obtain ⟨ρ, O, F, as, r, s, k⟩ := q
    unfold msAppO at k
    split at k
    · rename_i n O1 e1
      split at k
      · rename_i ds0 e2
        split at k
        · rename_i d O2 e3
          split at k
          · rename_i ds e4
            split at k
            · rename_i hz
              refine ⟨ρ, O, F, as, _, _, r, s, e1, fun v H1 F1 as1 g1 r1 hv => ?_⟩
              obtain ⟨a, rfl, ha⟩ := Rp.unO hv
              obtain ⟨xs0, x1, x2⟩ := r1.ml ha e2
              refine ⟨.inl ⟨rfl, xs0, .inl (.inl x1)⟩, ρ, O1, F1, as1, d, O2, r1, s.step g1, e3, fun y H2 F2 as2 g2 r2 hy => ?_⟩
              have ha2 := g2.at_ n a ha
              obtain ⟨xs, y1, y2⟩ := r2.ml ha2 e4
              have g3 : Gr H2 F2 as2 (upd H2 a (.lst (xs ++ [y]))) F2 as2 := mutO_gr (List.mem_of_getElem? ha2) y1
              exact ⟨a, xs, y, rfl, rfl, y1, by rw [y2.length]; exact Nat.lt_of_lt_of_le hz (by decide), k σ _ F2 as2 ((g1.trans g2).trans g3).toS (r2.mutO ha2 (y2.snoc hy)) (s.step ((g1.trans g2).trans g3))⟩
            · exact False.elim k
          · exact False.elim k
        · exact False.elim k
      · exact False.elim k
    · exact False.elim k
def floopO (n : Nat) (all : List D) (g : MG) (b : MS) : List D → MS
  | [], ρ, O => match O[n]? with
    | some (.ml es) => if es.length = all.length then .nx ρ O else .no
    | _ => .no
  | d :: ds, ρ, O => match O[n]? with
    | some (.ml es) => match es[all.length - (ds.length + 1)]? with
      | some d' => match g d' ρ with
        | none => .no
        | some ρ1 => match b ρ1 O with
          | .nx ρ2 O2 => floopO n all g b ds ρ2 O2
          | .ct ρ2 O2 => floopO n all g b ds ρ2 O2
          | .bk ρ2 O2 => .nx ρ2 O2
          | r => r
      | none => .no
    | _ => .no
def msForD (m : M D) (g : MG) (b : MS) : MS := fun ρ O => match m ρ O with
  | .ok (.ob n) O' => match O'[n]? with
    | some (.ml ds) => floopO n ds g b ds ρ O'
    | _ => .no
  | .ok (.lst ds) O' => floop g b ds ρ O'
  | _ => .no
theorem forO_go {K : Frag} {mg : Str → Option Value} {m : M D} {g : MG} {b : MS} {n : Nat} {ds : List D} {D : Ends} {σ : St} {H F : Hp} {as : List Addr} {ρ : DEnv} {O O1 : Store} (r : RlO K mg O H F as) (s : SlO K md P ρ σ H F as) (e : m ρ O = .ok (.ob n) O1) (e2 : O1[n]? = some (.ml ds))
    (k : FlOk K mg md P R D H F as (floopO n ds g b ds ρ O1)) : tFor (iList K (tM K mg md P (rW K P) m)) (tMG K mg md P g) (tMS K mg md P R b) D σ H := by
  refine ⟨ρ, O, F, as, _, _, r, s, e, fun v H1 F1 as1 g1 r1 hv => ?_⟩
  have hv' : Rp K F1 as1 v (.ob n) := by
    rcases hv with hv | ⟨a, xs, ds', _, z, _⟩
    · exact hv
    · cases z
  obtain ⟨a, rfl, ha⟩ := Rp.unO hv'
  obtain ⟨xs0, x1, x2⟩ := r1.ml ha e2
  have k1 := tMS_gr (R := R) g1.toS k
  refine ⟨a, rfl, ⟨xs0, .inl (.inl x1)⟩, fun i m σ' H' => m = ds.length - i ∧ i ≤ ds.length ∧ ∃ ρ' O' F' as', GrS P H1 F1 as1 H' F' as' ∧ RlO K mg O' H' F' as' ∧ SlO K md P ρ' σ' H' F' as' ∧ FlOk K mg md P R D H' F' as' (floopO n ds g b (ds.drop i) ρ' O'), ⟨ds.length, by simp, Nat.zero_le _, ρ, O1, F1, as1, GrS.refl, r1, s.step g1, by rw [List.drop_zero]; exact k1⟩, ?_⟩
  rintro i t σ' H' ⟨rfl, hi, ρ', O', F', as', g', r', s', k'⟩
  have ha' := g'.at_ n a ha
  by_cases hlt : i < ds.length
  · rw [List.drop_eq_getElem_cons hlt] at k'
    unfold floopO at k'
    split at k'
    · rename_i es ee
      obtain ⟨xs, y1, y2⟩ := r'.ml ha' ee
      have hidx : ds.length - ((ds.drop (i + 1)).length + 1) = i := by rw [List.length_drop]; omega
      rw [hidx] at k'
      split at k'
      · rename_i d' ed
        obtain ⟨x, hx, rx⟩ := y2.get' ed
        have hsq : SqL K H' a xs := .inl (.inl y1)
        refine .inr ⟨⟨xs, x, hsq, hx⟩, fun σ2 H2 => ∃ ρ2 O2 F2 as2, GrS P H1 F1 as1 H2 F2 as2 ∧ RlO K mg O2 H2 F2 as2 ∧ SlO K md P ρ2 σ2 H2 F2 as2 ∧ FlOk K mg md P R D H2 F2 as2 (floopO n ds g b (ds.drop (i + 1)) ρ2 O2), fun σ2 H2 h2 => ⟨ds.length - (i + 1), by omega, rfl, hlt, h2⟩, fun x' H3 y => ?_⟩
        obtain ⟨rfl, hy⟩ := y
        have hxx := hy xs hsq
        rw [hx] at hxx
        cases hxx
        split at k'
        · exact False.elim k'
        · rename_i ρ1 eg
          refine ⟨ρ', O', F', as', d', ρ1, r', s', rx, eg, fun σ4 s4 => ?_⟩
          refine ⟨ρ1, O', F', as', r', s4, ?_⟩
          cases eb : b ρ1 O' with
          | nx ρ2 O2 =>
            rw [eb] at k'
            exact fun σ2 H2 F2 as2 g2 r2 s2 => ⟨ρ2, O2, F2, as2, g'.trans g2, r2, s2, tMS_gr g2 k'⟩
          | ct ρ2 O2 =>
            rw [eb] at k'
            exact fun σ2 H2 F2 as2 g2 r2 s2 => ⟨ρ2, O2, F2, as2, g'.trans g2, r2, s2, tMS_gr g2 k'⟩
          | bk ρ2 O2 =>
            rw [eb] at k'
            exact fun σ2 H2 F2 as2 g2 r2 s2 => k' σ2 H2 F2 as2 g2 r2 s2
          | rt d O2 =>
            rw [eb] at k'
            exact fun v H2 F2 as2 g2 r2 s2 => k' v H2 F2 as2 g2 r2 s2
          | ex _ _ => rw [eb] at k'; exact False.elim k'
          | no => rw [eb] at k'; exact False.elim k'
      · exact False.elim k'
    · exact False.elim k'
  · have hi' : i = ds.length := by omega
    subst hi'
    rw [List.drop_length] at k'
    unfold floopO at k'
    split at k'
    · rename_i es ee
      split at k'
      · rename_i hl
        obtain ⟨xs, y1, y2⟩ := r'.ml ha' ee
        exact .inl ⟨⟨xs, .inl (.inl y1), by rw [y2.length, hl]; exact Nat.le_refl _⟩, k' σ' H' F' as' GrS.refl r' s'⟩
      · exact False.elim k'
    · exact False.elim k'
theorem vs_forD {tg iter : Expr} {body : List Stmt} {pos : Pos} {m : M D} {g : MG} {b : MS} (hc : X.calm = true) (hi : WE X md P iter m) (hg : VG X md P tg g) (hb : VSs X md P R body b) (hp : PassesOwn (model X.prog X.w) X.A X.env X.xe := by exact PassesOwn.never)
    (hs : ∀ x, foldedSetIterable iter X.env x = pure x := by intro _; rfl) : VS X md P R (.For tg iter body [] pos) (msForD m g b) := fun pins s σ H D I q => by
  obtain ⟨ρ, O, F, as, r, sl, k⟩ := q
  unfold msForD at k
  split at k
  · rename_i n O1 e1
    split at k
    · rename_i ds e2
      exact ps_for hp hc (pi_list hi) hg hb hs pins s σ H D I (forO_go r sl e1 e2 k)
    · exact False.elim k
  · rename_i ds O1 e1
    refine vs_for hc (vi_list hi) hg hb hp hs pins s σ H D I ⟨ρ, O, F, as, r, sl, ?_⟩
    unfold msFor
    have : mList m ρ O = .ok ds O1 := by unfold mList; rw [e1]; rfl
    rw [this]
    exact k
  · exact False.elim k
end
end L2
namespace L2
open PySem PySem.Spec PyProof.Rows
def CTup (K : Frag) (mg : Str → Option Value) (x : Str) (ls : List (List Nat)) : Prop := ∃ (a : Addr) (o : Obj) (its : Array Value) (n : Nat), mg x = some (.ref a) ∧ K.lookup a = some o ∧ o.cls = .type "tuple" ∧ o.data = .seq its n ∧ its.size ≤ sizeLine ∧ Vals (ls.map fun l => V.str (S l)) its.toList
theorem Rps.texts {K : Frag} {F : Hp} {as : List Addr} : ∀ ls : List (List Nat), Rps K F as (ls.map fun l => V.str (S l)) (ls.map D.str)
  | [] => Rps.nil
  | l :: ls => Rps.cons Rp.str (Rps.texts ls)
theorem ve_ctup {X : Cx} {md : List Md} {P : Pt} {x : Str} {ls : List (List Nat)} {pos : Pos} (h : CTup X.K X.mg x ls) (hg : Gl X x := by rfl) (hdb : (x == ("__debug__" : Str)) = false := by decide) : VE X md P (.Name x pos) (mC (.tup (ls.map D.str))) := by
  obtain ⟨a, o, its, n, hm, hk, h1, h2, h3, h4⟩ := h
  refine (pe_const (v := .ref a) ⟨_, hm, rfl⟩ hg hdb).imp fun σ H Q q => ?_
  obtain ⟨ρ, O, F, as, d, O', r, s, e, k⟩ := q
  cases e
  exact k _ H F as Gr.refl r (Rp.mkT (.inr ⟨o, its, n, hk, h1, h2, h3, h4⟩) (Rps.texts ls))
theorem bnd0 {α : Type} {p : List α → Prop} (h : p []) : ∀ us : List α, us.length = 0 → p us := fun us e => by
  cases us with
  | nil => exact h
  | cons a as => cases e
theorem bndS {α : Type} {p : List α → Prop} {n : Nat} (h : ∀ a, ∀ us : List α, us.length = n → p (a :: us)) : ∀ us : List α, us.length = n + 1 → p us := fun us e => by
  cases us with
  | nil => cases e
  | cons a as => exact h a as (Nat.succ.inj e)
end L2
namespace L2
open PySem PySem.Spec PyProof.Rows
section
variable {prog : Program} {w : World} {κ : Type} [DecidableEq κ] {knd : HeapKind prog w κ} {A : Around} {E : Value → Shared → Prop} {s : Shared}
end
section
variable {X : Cx} {pins : List (Addr × Obj)} {σ : St} {H : Hp} {s : Shared} {a b : Addr} {v : V} {r : Value} {kvs : List (List Key × V)} {k : List Key} {A : Around} {E : Value → Shared → Prop}
end
section
variable {K : Frag} {mg : Str → Option Value} {O : Store} {H F H' F' : Hp} {as as' : List Addr}
end
section
variable {X : Cx} {md : List Md} {P : Pt} {R : RR}
end
end L2
namespace L2
open PySem PySem.Spec PyProof.Rows
section
variable {X : Cx}
end
end L2
namespace L2
open PySem PySem.Spec PyProof.Rows
section
variable {X : Cx} {md : List Md} {P : Pt} {R : RR}
end
end L2
namespace L2
open PySem PySem.Spec PyProof.Rows
section
variable {K : Frag} {mg : Str → Option Value} {O : Store} {H F : Hp} {as : List Addr}
end
section
variable {X : Cx} {md : List Md} {P : Pt} {R : RR}
end
end L2
namespace L2
open PySem PySem.Spec PyProof.Rows
section
variable {X : Cx} {md : List Md} {P : Pt} {R : RR}
end
end L2
namespace L2
open PySem PySem.Spec PyProof.Rows PySem.W PySem.Calls
section
variable {prog : Program} {w : World} {A : Around} {E : Value → Shared → Prop} {s : Shared} {a : Addr} {vs out : List Value} {p : Array Nat}
def Keeps (s : Shared) (a : Addr) (h' : Heap) : Prop := ∀ b o, b ≠ a → s.heap.get? b = some o → h'.get? b = some o
end
section
variable {X : Cx}
end
structure Blt2 (mg : Str → Option Value) : Prop extends Blt mg where
  sorted_ : mg "sorted" = none
end L2
namespace L2
open PySem PySem.Spec PyProof.Rows
abbrev IsZipB (h : Heap) (z TI TO T : Addr) (b : Bool) : Prop :=
  h.get? z = some { cls := .type "zip", dict := none, data := .fields #[rawInt T, .bool b, .bool false, .ref TI, .ref TO], slots := #[] }
section
variable {prog : Program} {w : World} {A : Around} {E : Value → Shared → Prop} {s : Shared}
structure ZS (base : Nat) (h : Heap) (z TI TO i1 i2 l1 l2 S : Addr) (xs ys acc : Array Value) (c i : Nat) : Prop where
  zi : (IsZip h z TI TO .none ∧ ∃ a b, IsPair h TO a b) ∨ ∃ T b o, IsZipB h z TI TO T b ∧ h.get? T = some o ∧ T ∉ [z, TO, i1, i2, S]
  ti : IsPair h TI (.ref i1) (.ref i2)
  it1 : h.IsListIter i1 l1 i
  it2 : h.IsListIter i2 l2 i
  a1 : h.IsList l1 xs
  a2 : h.IsList l2 ys
  ls : h.get? S = some { cls := .type "list", dict := none, data := .seq acc c, slots := #[] }
  sz : acc.size = i
  tl : TO < h.objs.size
  nd : acc.toList.Nodup
  ts : ∀ (j : Nat) (v : Value), acc[j]? = some v → ∃ (T : Addr) (x y : Value), v = Value.ref T ∧ xs[j]? = some x ∧ ys[j]? = some y ∧ IsPair h T x y ∧ T ∉ [z, TO, i1, i2, S] ∧ base ≤ T
variable {R : PySem.Result → Shared → Prop}
end
section
variable {X : Cx}
end
section
variable {X : Cx} {md : List Md} {P : Pt}
end
section
end
end L2
namespace L2
open PySem PySem.Spec PyProof.Rows PySem.W
section
variable {X : Cx} {md : List Md} {P : Pt}
end
end L2
namespace L2
open PySem PySem.Spec PyProof.Rows
section
variable {X : Cx} {md : List Md} {P : Pt} {R : RR}
variable {elts : List Expr} {x1 : Nat} {tpos : Pos} {a elt : Expr} {ifs : List Expr} {scope : Scope} {p pos pe : Pos} {m : M D} {g : MG} {t : M Bool} {e : M D}
end
end L2
namespace L2
open PySem PySem.Spec PyProof.Rows
section
variable {X : Cx} {md : List Md} {P : Pt} {R : RR} {tg : Expr}
end
structure Blt3 (mg : Str → Option Value) : Prop extends Blt2 mg where
  reversed_ : mg "reversed" = none
end L2
namespace L2
open PySem PySem.Spec PyProof.Rows PySem.W
section
variable {prog : Program} {w : World} {A : Around} {E : Value → Shared → Prop}
theorem fn_kw {id : String} {b : Builtin} {as : List Value} {kw : List (Str × Value)} {s : Shared} {Q : Value → Shared → Prop} (k0 : builtinKind id = none) (p0 : plainId id = true) (b0 : entryFor table id = some b) (a0 : argsOk id ⟨as, kw⟩)
    (c0 : wpAny (model prog w) A.in1 (b ⟨as, kw⟩) (fun fin s' => match fin with
      | .done f => (match (Except.ok f : Result) with | .ok (.ret v) => Q v s' | .ok _ => False | .error e => E e s')
      | .again c => c.quiet = true ∧ codeAny (model prog w) A c (fun r s' => match r with | .ok (.ret v) => Q v s' | .ok _ => False | .error e => E e s') s') E s) :
    wpAny (model prog w) A (call (.builtin id) as kw) Q E s := by
  refine wpAny_call (codeAny_call_builtin p0 b0 ?_)
  simp only [checkBuiltinCall, k0]
  cases g0 : Manifest.signature? id with
  | none => exact wpAny_pure c0
  | some sg =>
    simp only [argsOk, g0] at a0
    have z : Bind.checkArgs id sg ⟨as, kw⟩ = pure () := a0
    show wpAny _ A.in1 (Bind.checkArgs id sg ⟨as, kw⟩) _ _ s
    rw [z]
    exact wpAny_pure c0
end
section
variable {X : Cx} {md : List Md} {P : Pt} {R : RR}
end
end L2
namespace L2
open PySem PySem.Spec PyProof.Rows PySem.W
section
variable {X : Cx} {tg : Expr} {md : List Md} {P : Pt}
end
end L2
namespace L2
open PySem PySem.Spec PyProof.Rows PySem.W
section
variable {X : Cx} {pins : List (Addr × Obj)} {σ : List (Option V)} {H : Hp} {s : Shared} {a : Addr} {xs : List (List Key × V)} {o : Obj}
end
end L2
namespace L2
open PySem PySem.Spec PyProof.Rows PySem.W
section
variable {prog : Program} {w : World} {A : Around} {E : Value → Shared → Prop} {s : Shared}
end
end L2
namespace L2
open PySem PySem.Spec PyProof.Rows PySem.W
end L2
namespace L2
open PySem PySem.Spec PyProof.Rows PySem.W
section
variable {K : Frag} {mg : Str → Option Value} {O : Store} {H F : Hp} {as : List Addr}
end
section
variable {X : Cx} {md : List Md} {P : Pt} {R : RR}
end
end L2
namespace L2
open PySem PySem.Spec PyProof.Rows PySem.W
section
variable {K : Frag} {mg : Str → Option Value} {md : List Md} {P : Pt} {ρ : DEnv} {σ : St} {O : Store} {H F H' F' : Hp} {as as' : List Addr}
end
section
variable {X : Cx} {md : List Md} {P : Pt} {R : RR}
end
end L2
namespace L2
open PySem PySem.Spec PyProof.Rows PySem.W
section
variable {X : Cx} {md : List Md} {P : Pt} {R : RR}
end
end L2
namespace L2
open PySem PySem.Spec PyProof.Rows PySem.W PySem.Calls
section
variable {prog : Program} {w : World} {A : Around} {E : Value → Shared → Prop} {s : Shared} {a : Addr} {ss : List Str}
end
end L2
namespace L2
open PySem PySem.Spec PyProof.Rows PySem.W PySem.Calls
section
variable {prog : Program} {w : World} {A : Around} {E : Value → Shared → Prop} {s : Shared} {a : Addr} {ss : List Str} {o : Obj} {es : Array (Int × Value)} {ep : Nat} {t : SetTable}
end
end L2
namespace L2
open PySem PySem.Spec PyProof.Rows PySem.W PySem.Calls
section
variable {prog : Program} {w : World} {A : Around} {E : Value → Shared → Prop} {s : Shared} {a : Addr} {ss : List Str} {o : Obj} {es : Array (Int × Value)} {ep : Nat} {t : SetTable}
end
end L2
namespace L2
open PySem PySem.Spec PyProof.Rows PySem.W PySem.Calls
section
variable {X : Cx}
variable {md : List Md} {P : Pt}
end
structure Blt4 (mg : Str → Option Value) : Prop extends Blt2 mg where
  set_ : mg "set" = none
end L2
namespace L2
open PySem PySem.Spec PyProof.Rows PySem.W PySem.Calls
section
variable {prog : Program} {w : World} {A : Around} {E : Value → Shared → Prop} {s : Shared} {K : Frag} {H F : Hp} {as : List Addr}
end
section
variable {X : Cx}
end
end L2
namespace L2
open PySem PySem.Spec PyProof.Rows
section
variable {X : Cx} {md : List Md} {P : Pt} {R : RR}
end
end L2
namespace L2
open PySem PySem.Spec PyProof.Rows
section
variable {X : Cx} {md : List Md} {P : Pt}
variable {tg iter elt : Expr} {ifs : List Expr} {scope : Scope} {pos : Pos} {mi : M D} {g : MG} {t : M Bool} {e : M D}
end
end L2
namespace L2
open PySem PySem.Spec PyProof.Rows PySem.W
section
variable {X : Cx} {md : List Md} {P : Pt} {R : RR}
end
section
variable {X : Cx} {md : List Md} {P : Pt} {R : RR}
end
section
variable {Pr : Program} {w : World} {K : Frag} {mg : Str → Option Value} {base : Heap}
end
end L2
namespace L2
open PySem PySem.Spec PyProof.Rows PySem.W
section
variable {X : Cx} {pins : List (Addr × Obj)} {σ : St} {H : Hp} {s : Shared} {ea : Addr} {oe : Obj}
end
end L2
namespace L2
open PySem PySem.Spec PyProof.Rows PySem.W PySem.Calls PySem.Builtin PySem.Builtin.ObjectAttr PySem.Builtin.Getset_descriptor
section
variable {prog : Program} {w : World} {A : Around} {E : Value → Shared → Prop} {K : Frag} {a C : Addr} {o : Obj} {h : Heap} {g : Array GenState} {d : Drawn} {t : Nat} {os : OsState}
structure ExcF (K : Frag) (C : Addr) : Prop where
  ga : findIn K (.ref C) "__getattribute__" = some (some (.builtin "BaseException.__getattribute__"))
  na : findIn K (.ref C) "__getattr__" = some none
  ca : findIn K (.ref C) "__class__" = some (some (.builtin "object.__class__"))
  sp : specialIn K (.builtin "object.__class__") "__get__" = some (some (.builtin "getset_descriptor.__get__"))
  tk : takesIn K (.builtin "object.__class__") = some true
  ob : mroIn K C (.type "object") = some true
  be : mroIn K C (.type "BaseException") = some true
  cl : (clsIn K C).isSome = true
end
end L2
namespace L2
open PySem PySem.Spec PyProof.Rows PySem.W
section
variable {X : Cx} {ea C : Addr} {oe : Obj}
end
end L2
namespace L2
open PySem PySem.Spec PyProof.Rows PySem.W
section
variable {X : Cx} {md : List Md} {P : Pt} {R : RR}
end
end L2
namespace L2
open PySem PySem.Spec PyProof.Rows PySem.W
section
variable {X : Cx} {ea C : Addr} {oe : Obj} {i : Nat} {b : Bool} {n : Str} {p p1 pos : Pos}
end
end L2
namespace L2
open PySem PySem.Spec PyProof.Rows
section
variable {X : Cx}
def cutS (l n : List Nat) : List (List Nat) := (Txt.split (S l) (S n)).map fun x => x.cps.toList
theorem strV_vals : ∀ ws : List (Str × Tok), Vals ((ws.map (·.1)).map V.str) (strValues ws)
  | [] => .nil
  | a :: ws => .cons ⟨a.2, rfl⟩ (strV_vals ws)
theorem cutS_V (l n : List Nat) : (cutS l n).map (fun y => V.str (S y)) = (Txt.split (S l) (S n)).map V.str := by
  unfold cutS
  rw [List.map_map]
  exact List.map_congr_left fun x _ => congrArg V.str (S_of x)
def rSplit : V → List V → Hp → VK → Prop := fun x vs H Q => ∃ l n : List Nat, x = .str (S l) ∧ vs = [.str (S n)] ∧ 1 ≤ n.length ∧ l.length ≤ 1000000 ∧ ∀ p, H p = none → Q (.ref p) (upd H p (.lst ((cutS l n).map fun y => V.str (S y))))
theorem mt_split : MtR X "str.split" rSplit := by
  intro pins s σ H x xs v us Q I rx rs h
  obtain ⟨l, n, rfl, rfl, hn, hl, q⟩ := h
  obtain ⟨a, rfl⟩ := rx
  obtain ⟨u, rfl, ru⟩ := vals1 rs
  obtain ⟨b, rfl⟩ := ru
  have hs : sizeLine = 16777216 := sizeLine_eq
  have hw := split_weight (S l) (S n) (by rw [S_length]; exact hn)
  rw [S_length] at hw
  have hy0 : ((S n).length == 0) = false := by rw [S_length]; cases n with
    | nil => cases hn
    | cons => rfl
  have fin : ∀ (ws : List (Str × Tok)) (k : Tok), ws.map (·.1) = Txt.split (S l) (S n) →
      EP X pins σ Q (.ref s.heap.objs.size) { s with heap := s.heap.push { cls := .type "list", data := .seq (strValues ws).toArray }, toks := k } := fun ws k e =>
    ⟨.ref s.heap.objs.size, _, I.laid (t' := k) (fun b o z => Heap.get?_push_of_some _ z) (Nat.le_refl _)
      (show ObjOk X.prog X.w _ _ _ (.lst ((cutS l n).map fun y => V.str (S y))) from ⟨by rw [cutS_V, List.length_map]; omega, _, 0, by rw [cutS_V, ← e]; exact strV_vals ws, Heap.get?_push_size _ rfl⟩), rfl, q _ (I.hok.fresh (Nat.le_refl _))⟩
  cases h1 : (decide ((S l).length < (S n).length) || decide (Builtin.Str.strKind (S l) < Builtin.Str.strKind (S n)))
  · cases hf : (Builtin.Str.occurrences (S l) (S n) 0 (S l).length ((S l).length + 1)).isEmpty
    · have hle : (Builtin.Str.partsBetween (S l) (Builtin.Str.occurrences (S l) (S n) 0 (S l).length ((S l).length + 1)) (S n).length).length ≤ sizeLine := by
        have e1 := StrLaws.occ_length_le (S l) (S n) 0 (S l).length ((S l).length + 1)
        rw [S_length] at e1
        rw [length_partsBetween, S_length]
        omega
      refine call_meets F.slot_str_split (typeIs_str _ _ _) F.entry_str_split (F.args_str_split_2 _ _) (meets_str_split_sep _ _ a b h1 hy0 hf (by rw [S_length]; omega) hle) ?_
      show wants _ _ _ { s with toks := _, heap := s.heap.push { cls := .type "list", data := .seq (strsFrom s.toks _).toArray } }
      rw [strsFrom_eq]
      exact fin _ _ ((numbered_texts _ _).trans ((if_neg (ne_true_of_eq_false h1)).trans (if_neg (ne_true_of_eq_false hf))).symm)
    · exact call_meets F.slot_str_split (typeIs_str _ _ _) F.entry_str_split (F.args_str_split_2 _ _) (meets_str_split_not_found _ _ a b h1 hy0 hf) (fin [(S l, a)] s.toks ((if_neg (ne_true_of_eq_false h1)).trans (if_pos hf)).symm)
  · exact call_meets F.slot_str_split (typeIs_str _ _ _) F.entry_str_split (F.args_str_split_2 _ _) (meets_str_split_cannot_occur _ _ a b h1) (fin [(S l, a)] s.toks (if_pos h1).symm)
variable {md : List Md} {P : Pt}
def mSplit (mo m : M D) : M D := fun ρ O => (mo ρ O).bind fun a O1 => (m ρ O1).bind fun b O2 => match a, b with
  | .str l, .str n => if 1 ≤ n.length ∧ l.length ≤ 1000000 then .ok (.lst ((cutS l n).map D.str)) O2 else .no
  | _, _ => .no
theorem Rps.strL {K : Frag} {F : Hp} {as : List Addr} : ∀ ls : List (List Nat), Rps K F as (ls.map fun y => V.str (S y)) (ls.map D.str)
  | [] => Rps.nil
  | l :: ls => Rps.cons Rp.str (Rps.strL ls)
theorem oe_split {o e : Expr} {apos cpos : Pos} {mo m : M D} (ho : VE X md P o mo) (h : VE X md P e m)
    (hbase : attributeBase o "split" X.env (eval o X.env) = eval o X.env := by rfl) (hfew : ((backTo cpos (starEach [e] X.env)).all (fun x => !x.1) && (backToKw cpos (keywordEach [] X.env)).all (fun x => x.1.isSome) && decide ([e].length + ([] : List Keyword).length + (if ([] : List Keyword).isEmpty then 0 else 1) < 30)) = true := by rfl)
    (hline : (apos.endLine == cpos.line) = true := by rfl) (hs : starEach [e] X.env = (false, eval e X.env) :: starEach [] X.env := by exact starC rfl) (hplain : (backTo cpos (starEach [] X.env)).any (·.1) = false := by exact starAny rfl) :
    OE X md P (.Call (.Attribute o "split" apos) [e] [] cpos) (mSplit mo m) :=
  (pe_bm PySem.F.plainAttrs_str PySem.F.slot_str_split PySem.F.type_str_split mt_split ho (pa_cons h pa_nil hs) hbase hfew hline hs hplain).imp fun σ H Q q => by
    obtain ⟨ρ, O, F, as, d, O', r, s, e, k⟩ := q
    obtain ⟨a, O1, e1, e⟩ := Res.bind_ok e
    obtain ⟨b, O2, e2, e⟩ := Res.bind_ok e
    split at e
    · split at e
      · rename_i hz
        cases e
        refine ⟨ρ, _, F, as, _, _, r, s, e1, fun v H1 F1 as1 g1 r1 hv => ?_⟩
        cases Rp.unS hv
        refine ⟨rfl, ρ, _, F1, as1, _, _, r1, s.step g1, e2, fun u H2 F2 as2 g2 r2 hu => ?_⟩
        cases Rp.unS hu
        refine ⟨_, _, rfl, rfl, hz.1, hz.2, fun p hp => ?_⟩
        have g12 := g1.trans g2
        exact k_lst r2 (fun v' H' F' g' r' hw => k v' H' F' as2 (g12.trans g') r' (rO_ok _ _ _ _ _ _ _ (fun a ha => g12.dm a ha) hw)) hp (Rps.strL _)
      · cases e
    · cases e
end
end L2
namespace L2
open PySem PySem.Spec PyProof.Rows PySem.W
def mxT : Option (List Nat) → List (List Nat) → Option (List Nat)
  | b, [] => b
  | none, n :: r => mxT (some n) r
  | some m, n :: r => mxT (some (if (n.length : Int) > m.length then n else m)) r
theorem mxT_some : ∀ (ls : List (List Nat)) (b : List Nat), ∃ m, mxT (some b) ls = some m ∧ (m = b ∨ m ∈ ls)
  | [], b => ⟨b, rfl, .inl rfl⟩
  | n :: r, b => by
    obtain ⟨m, e, h⟩ := mxT_some r (if (n.length : Int) > b.length then n else b)
    refine ⟨m, e, ?_⟩
    rcases h with h | h
    · split at h
      · exact .inr (h ▸ List.mem_cons_self ..)
      · exact .inl h
    · exact .inr (List.mem_cons_of_mem _ h)
theorem mxT_ne {ls : List (List Nat)} (h : ls ≠ []) : ∃ m, mxT none ls = some m ∧ m ∈ ls := by
  cases ls with
  | nil => exact absurd rfl h
  | cons n r =>
    obtain ⟨m, e, h⟩ := mxT_some r n
    exact ⟨m, e, List.mem_cons.mpr h⟩
def MxB (bs : Array Value) : Option (List Nat) → Prop
  | none => bs = #[]
  | some m => ∃ t u, bs = #[.str (S m) t, .int (m.length : Int) u]
section
variable {prog : Program} {w : World} {A : Around} {E : Value → Shared → Prop}
theorem mx_cmp {n m : Int} {t u : Tok} {s : Shared} {Q : Value → Shared → Prop} (q : Q (.bool (decide (n > m))) s) : wpAny (model prog w) A (richCompare .Gt (.int n t) (.int m u)) Q E s :=
  CmpOf.ints_gt (A := A) (P := fun i v => ∃ t, v = .int (if i = 0 then n else m) t) (fun i => if i = 0 then n else m) (fun _ _ z => z) 0 1 _ _ s Q E ⟨t, rfl⟩ ⟨u, rfl⟩ q
theorem mx_loop {R : Result → Shared → Prop} {l i0 T : Addr} {its : List Value} (hh : A.in1.handled = none) (n1 : l ≠ i0) (n2 : T ≠ i0) (n3 : T ≠ l) :
    ∀ (us : List Value) (ns : List (List Nat)) (pre : List Value) (b : Option (List Nat)) (bs : Array Value) (s : Shared) (c : Nat), (∀ x ∈ ns, x.length ≤ 1000000) → (b = none → ns ≠ []) → its = pre ++ us → Vals (ns.map fun y => V.str (S y)) us → s.heap.IsListIter i0 l pre.length → s.heap.IsList l its.toArray → MxB bs b →
      s.heap.get? T = some { cls := .type "list", dict := none, data := .seq bs c, slots := #[] } →
      (∀ m t h' tk, mxT b ns = some m → (∀ x o, x ≠ i0 → x ≠ T → s.heap.get? x = some o → h'.get? x = some o) → R (.ok (.ret (.str (S m) t))) { s with heap := h', toks := tk }) →
      codeAny (model prog w) A (.builtin "max.loop" ⟨[.ref i0, .builtin "len", .ref T], []⟩) R s := by
  have W := Walks.list (prog := prog) (w := w) hh i0 l n1 its.toArray
  have nm : (toString "max" ++ toString ".loop" : String) = "max.loop" := by decide
  have nS : T ∉ [i0] := fun z => n2 (List.mem_singleton.mp z)
  have ni : ∀ x : Addr, x ≠ i0 → x ∉ [i0] := fun x z y => z (List.mem_singleton.mp y)
  intro us
  induction us with
  | nil =>
    intro ns pre b bs s c hz hne e rv it hl hb hS hR
    have ens : ns = [] := by
      cases ns with
      | nil => rfl
      | cons => cases rv
    subst ens
    have el : pre.length = its.toArray.size := by rw [e]; simp
    rw [el] at it
    refine codeAny_builtin PySem.F.entry_max_loop ?_
    rw [Around.under_plainId PySem.F.plain_max_loop _]
    show wpAny _ A.in1 (seqItems? (.ref T) >>= _) _ _ s
    refine wpAny_bind (wpAny_seqItems hS rfl ?_)
    show wpAny _ A.in1 (tryCatch (pyNext (.ref i0)) _ >>= _) _ _ s
    refine wpAny_bind (wpAny_tryCatch (W.done s _ _ ⟨it, hl⟩ fun h1 tk kp => ?_))
    have hS1 := kp T _ nS hS
    cases b with
    | none => exact absurd rfl (hne rfl)
    | some m =>
      obtain ⟨t, u, hb'⟩ := hb
      subst hb'
      show wpAny _ A.in1 (updateSeq T (fun _ => #[]) >>= _) _ _ _
      refine wpAny_bind ?_
      refine wpAny_updateSeq hS1 rfl (wpAny_bind (wpAny_letGo (wpAny_pure ?_)))
      exact hR m t _ tk rfl fun x o z1 z2 q => (Heap.get?_update_other _ _ (Ne.symm z2)).trans (kp x o (ni x z1) q)
  | cons u us ih =>
    intro ns pre b bs s c hz hne e rv it hl hb hS hR
    cases ns with
    | nil => cases rv
    | cons n ns =>
      have rv' : Vals (V.str (S n) :: ns.map fun y => V.str (S y)) (u :: us) := rv
      obtain ⟨ru, rus⟩ : RelV (.str (S n)) u ∧ Vals (ns.map fun y => V.str (S y)) us := by
        cases rv' with
        | cons a b => exact ⟨a, b⟩
      obtain ⟨tu, rfl⟩ := ru
      have el : pre.length < its.toArray.size := by rw [e]; simp
      have e' : its = (pre ++ [Value.str (S n) tu]) ++ us := by rw [e]; simp
      have eg : its.toArray[pre.length]? = some (Value.str (S n) tu) := by rw [e]; simp
      have hn := hz n (List.mem_cons_self ..)
      refine codeAny_builtin PySem.F.entry_max_loop ?_
      rw [Around.under_plainId PySem.F.plain_max_loop _]
      show wpAny _ A.in1 (seqItems? (.ref T) >>= _) _ _ s
      refine wpAny_bind (wpAny_seqItems hS rfl ?_)
      show wpAny _ A.in1 (tryCatch (pyNext (.ref i0)) _ >>= _) _ _ s
      refine wpAny_bind (wpAny_tryCatch (W.item pre.length s _ _ el ⟨it, hl⟩ fun v h1 tk hv st kp => ?_))
      rw [eg] at hv
      cases hv
      have hS1 := kp T _ nS hS
      have upd1 : ∀ (h2 : Heap) (y : Addr) (o : Obj), y ≠ T → h2.get? y = some o → ∀ f, (h2.update T f).get? y = some o := fun h2 y o z q f => (Heap.get?_update_other _ _ (Ne.symm z)).trans q
      have go : ∀ (b2 : List Nat) (bs2 : Array Value) (h2 : Heap) (tk2 : Nat) (c2 : Nat), MxB bs2 (some b2) → mxT (some b2) ns = mxT b (n :: ns) → h2.get? T = some { cls := .type "list", dict := none, data := .seq bs2 c2, slots := #[] } →
          (∀ x o, x ≠ T → h1.get? x = some o → h2.get? x = some o) → codeAny (model prog w) A (.builtin "max.loop" ⟨[.ref i0, .builtin "len", .ref T], []⟩) R { s with heap := h2, toks := tk2 } := fun b2 bs2 h2 tk2 c2 q1 q2 q3 q4 => by
        have st2 := W.frame _ h1 h2 st fun x hx o q => q4 x o (fun z => by
          rcases List.mem_cons.mp hx with rfl | hx
          · exact n2 z.symm
          · rcases List.mem_cons.mp hx with rfl | hx
            · exact n3 z.symm
            · cases hx) q
        refine ih ns (pre ++ [Value.str (S n) tu]) (some b2) bs2 _ c2 (fun x hx => hz x (List.mem_cons_of_mem _ hx)) (fun z => nomatch z) e' rus (by rw [List.length_append]; exact st2.1) st2.2 q1 q3 fun m t h3 tk3 z1 z2 => ?_
        exact hR m t h3 tk3 (q2 ▸ z1) fun x o y1 y2 q => z2 x o y1 y2 (q4 x o y2 (kp x o (ni x y1) q))
      show wpAny _ A.in1 (tryCatch (holding [Value.str (S n) tu] (call (.builtin "len") [Value.str (S n) tu])) _ >>= _) _ _ _
      refine wpAny_bind (wpAny_tryCatch (wpAny_holding (len_str (by rw [S_length]; omega) ?_)))
      rw [S_length]
      cases b with
      | none =>
        have hb' : bs = #[] := hb
        subst hb'
        show wpAny _ A.in1 (updateSeq T (fun _ => #[Value.str (S n) tu, Value.int (n.length : Int) (tk + 1)]) >>= _) _ _ _
        refine wpAny_bind ?_
        refine wpAny_updateSeq hS1 rfl ?_
        rw [nm]
        exact wpAny_pure ⟨plainId_quiet PySem.F.plain_max_loop _, go n _ _ _ _ ⟨tu, _, rfl⟩ rfl (Heap.get?_update_self _ hS1 rfl) fun x o z q => upd1 _ x o z q _⟩
      | some m =>
        obtain ⟨t, t2, hb'⟩ := hb
        subst hb'
        show wpAny _ A.in1 (tryCatch (holding [Value.str (S n) tu, Value.int (n.length : Int) (tk + 1)] (richCompare .Gt (.int (n.length : Int) (tk + 1)) (.int (m.length : Int) t2) >>= _)) _ >>= _) _ _ _
        refine wpAny_bind (wpAny_tryCatch (wpAny_holding (wpAny_bind (mx_cmp ?_))))
        refine wpAny_bind (wpAny_holding (wpAny_truthy_bool ?_))
        refine wpAny_bind (wpAny_letGo (wpAny_pure ?_))
        by_cases hlt : (n.length : Int) > m.length
        · rw [decide_eq_true hlt]
          simp only [if_true]
          refine wpAny_bind ?_
          refine wpAny_updateSeq hS1 rfl (wpAny_bind (wpAny_letGo ?_))
          rw [nm]
          exact wpAny_pure ⟨plainId_quiet PySem.F.plain_max_loop _, go n _ _ _ _ ⟨tu, _, rfl⟩ (by show _ = mxT (some (if (n.length : Int) > m.length then n else m)) ns; rw [if_pos hlt]) (Heap.get?_update_self _ hS1 rfl) fun x o z q => upd1 _ x o z q _⟩
        · rw [decide_eq_false hlt]
          simp only [Bool.false_eq_true, if_false]
          refine wpAny_bind (wpAny_letGo ?_)
          rw [nm]
          exact wpAny_pure ⟨plainId_quiet PySem.F.plain_max_loop _, go m _ _ _ _ ⟨t, t2, rfl⟩ (by show _ = mxT (some (if (n.length : Int) > m.length then n else m)) ns; rw [if_neg hlt]) hS1 fun x o z q => q⟩
end
section
variable {X : Cx} {md : List Md} {P : Pt} {R : RR}
def gMaxK : List D → Option D
  | [.lst ds] => match strsD ds with
    | some ls => if ls.all (fun x => decide (x.length ≤ 1000000)) = true then (mxT none ls).map D.str else none
    | none => none
  | _ => none
theorem args_maxK (a d : Value) : argsOk "max" ⟨[a], [("key", d)]⟩ := by unfold argsOk; kernel_rfl
theorem call_maxK (hc : X.calm = true) {pins : List (Addr × Obj)} {s : Shared} {σ : St} {H : Hp} {a : Addr} {ns : List (List Nat)} {m : List Nat} {Q : VK} (I : Inv X pins σ H s) (hq : SqL X.K H a (ns.map fun y => V.str (S y))) (hz : ∀ x ∈ ns, x.length ≤ 1000000) (hm : mxT none ns = some m) (q : Q (.str (S m)) H) :
    wpAny (model X.prog X.w) X.A (call (.builtin "max") [.ref a] [("key", .builtin "len")]) (EP X pins σ Q) X.xe s := by
  obtain ⟨its, rv, pl, _⟩ := I.list hq
  have hl := pl.isList
  have la : a < s.heap.objs.size := by obtain ⟨_, z, _⟩ := hl; exact Heap.lt_size z
  refine fn_kw PySem.F.kind_max PySem.F.plain_max PySem.F.entry_max (args_maxK _ _) ?_
  show wpAny _ X.A.in1 (Builtin.Builtins.bindParams "max" ["key", "default"] 0 ⟨[], [("key", .builtin "len")]⟩ >>= _) _ _ s
  refine wpAny_bind (wpAny_of_eq (show _ = pure [some (Value.builtin "len"), none] from rfl) ?_)
  refine wpAny_bind (wpAny_pure ?_)
  refine wpAny_bind (wpAny_pyIter_list hl ?_)
  refine wpAny_bind (wpAny_newObj_type ?_)
  rw [show (toString "max" ++ toString ".loop" : String) = "max.loop" by decide]
  have sz : (s.heap.push { cls := .type "list_iterator", data := .fields #[.ref a, .int 0 0] }).objs.size = s.heap.objs.size + 1 := Heap.size_push ..
  refine wpAny_pure ⟨plainId_quiet PySem.F.plain_max_loop _, mx_loop (its := its) (l := a) (i0 := s.heap.objs.size) (I.ok.hd hc) (Nat.ne_of_lt la) (Nat.ne_of_gt (by rw [sz]; exact Nat.lt_succ_self _)) (Nat.ne_of_gt (by rw [sz]; exact Nat.lt_succ_of_lt la)) its ns [] none #[] _ 0 hz (fun _ z => by rw [z] at hm; cases hm) rfl rv
    ⟨_, Heap.get?_push_of_some _ (Heap.get?_push_size _ rfl), rfl, rfl⟩ ((hl.push _).push _) rfl (Heap.get?_push_size _ rfl) fun m' t h1 tk hv kp => ?_⟩
  have kk : ∀ b o, s.heap.get? b = some o → h1.get? b = some o := fun b o z => kp b o (Nat.ne_of_lt (Heap.lt_size z)) (Nat.ne_of_lt (by rw [sz]; exact Nat.lt_succ_of_lt (Heap.lt_size z))) (Heap.get?_push_of_some _ (Heap.get?_push_of_some _ z))
  rw [hm] at hv
  cases hv
  exact ⟨.str (S m), H, I.kept (t' := tk) kk, ⟨t, rfl⟩, q⟩
theorem oe_maxK {p pos p2 p3 : Pos} {e : Expr} {m : M D} (hc : X.calm = true) (hm : X.mg "max" = none) (hm2 : X.mg "len" = none) (ha : SE X md P e m) (hg : Gl X "max" := by rfl) (hg2 : Gl X "len" := by rfl) (hs : starEach [e] X.env = (false, eval e X.env) :: starEach [] X.env := by exact starC rfl) (hpl : (backTo pos (starEach [e] X.env)).any (·.1) = false := by exact starAny rfl)
    (he : backTo pos (starEach [e] X.env) = (false, eval e X.env) :: backTo pos (starEach [] X.env) := by rfl) :
    OE X md P (.Call (.Name "max" p) [e] [⟨some "key", .Name "len" p2, p3⟩] pos) (mCallB gMaxK (maCons m maNil)) := by
  intro pins s σ H Q I q
  refine wpAny_Call_Name_kw (ld_blt I hg hm boot_max ?_ (by decide) (by decide))
  have q' := callB_go (ms := [.s]) q
  refine callWith_kw (thn ((ae_s ha ae_nil hs) pos pins s σ H _ I q') fun us s1 ⟨vs, H1, I1, r1, q1⟩ => ?_) he hpl
  refine kws_cons (ld_blt I1 hg2 hm2 boot_len (kws_nil ?_) (by decide) (by decide))
  obtain ⟨O, F, as, ds, d, r, hvs, e, k⟩ := q1
  unfold gMaxK at e
  split at e
  · rename_i es
    obtain ⟨v, rfl, hv⟩ := hvs.one
    obtain ⟨a, xs, rfl, h1, h2⟩ := hv.list r.fh
    obtain ⟨u, rfl, ru⟩ := vals1 r1
    cases ru
    cases hi : strsD es with
    | none => rw [hi] at e; cases e
    | some ns =>
      rw [hi] at e
      dsimp only at e
      split at e
      · rename_i hz
        cases em : mxT none ns with
        | none => rw [em] at e; cases e
        | some m' =>
          rw [em] at e
          cases e
          have hx := h2.strs hi
          refine call_maxK hc I1 (ns := ns) (by rw [← hx]; exact h1.sq) (fun x hx => of_decide_eq_true (List.all_eq_true.mp hz x hx)) em ?_
          exact k_val r k rfl Rp.str
      · cases e
  · cases e
end
end L2
namespace L2
open PySem PySem.Spec PyProof.Rows PySem.W
section
variable {X : Cx} {md : List Md} {P : Pt} {R : RR}
end
end L2
namespace L2
open PySem PySem.Spec PyProof.Rows
def ofO (o : Option D) (O : Store) : Res D := match o with
  | some d => .ok d O
  | none => .no
@[simp] theorem ofO_some {d : D} {O : Store} : ofO (some d) O = .ok d O := rfl
@[simp] theorem bind_ok' {α β : Type} {a : α} {O : Store} {f : α → Store → Res β} : (Res.ok a O).bind f = f a O := rfl
@[simp] theorem deref_non {O : Store} : deref O .non = .non := rfl
@[simp] theorem deref_bl {O : Store} {b : Bool} : deref O (.bl b) = .bl b := rfl
@[simp] theorem deref_int {O : Store} {b : Int} : deref O (.int b) = .int b := rfl
@[simp] theorem deref_str {O : Store} {b : List Nat} : deref O (.str b) = .str b := rfl
@[simp] theorem deref_lst {O : Store} {b : List D} : deref O (.lst b) = .lst b := rfl
@[simp] theorem deref_tup {O : Store} {b : List D} : deref O (.tup b) = .tup b := rfl
@[simp] theorem deref_dic {O : Store} {a b : List D} : deref O (.dic a b) = .dic a b := rfl
@[simp] theorem m_var {i : Nat} {ρ : DEnv} {O : Store} : mVar i ρ O = (match ρ[i]? with | some (some d) => .ok d O | _ => .no) := rfl
@[simp] theorem m_c {d : D} {ρ : DEnv} {O : Store} : mC d ρ O = .ok d O := rfl
@[simp] theorem m_bin {g : D → D → Option D} {a b : M D} {ρ : DEnv} {O : Store} : mBin g a b ρ O = (a ρ O).bind fun x O1 => (b ρ O1).bind fun y O2 => ofO (g (deref O2 x) (deref O2 y)) O2 := rfl
def gF (r : Res D) : Res D := match r with
  | .ok d O' => if notL d = true then .ok d O' else .no
  | r => r
@[simp] theorem m_g {m : M D} {ρ : DEnv} {O : Store} : mG m ρ O = gF (m ρ O) := rfl
@[simp] theorem gF_int {i : Int} {O : Store} : gF (.ok (.int i) O) = .ok (.int i) O := rfl
@[simp] theorem gF_str {i : List Nat} {O : Store} : gF (.ok (.str i) O) = .ok (.str i) O := rfl
@[simp] theorem gF_bl {i : Bool} {O : Store} : gF (.ok (.bl i) O) = .ok (.bl i) O := rfl
@[simp] theorem gF_non {O : Store} : gF (.ok .non O) = .ok .non O := rfl
@[simp] theorem gF_tup {l : List D} {O : Store} : gF (.ok (.tup l) O) = .ok (.tup l) O := rfl
@[simp] theorem gF_ob {n : Nat} {O : Store} : gF (.ok (.ob n) O) = .ok (.ob n) O := rfl
def chF (o : Option D) (O : Store) (f : Unit → Res D) : Res D := match o with
  | some (.bl true) => f ()
  | some (.bl false) => .ok (.bl false) O
  | _ => .no
@[simp] theorem chF_b {b : Bool} {O : Store} {f : Unit → Res D} : chF (some (.bl b)) O f = if b = true then f () else .ok (.bl false) O := by cases b <;> rfl
@[simp] theorem m_chain {g g' : D → D → Option D} {a b c : M D} {ρ : DEnv} {O : Store} : mChain g g' a b c ρ O = (a ρ O).bind fun x O1 => (b ρ O1).bind fun y O2 => chF (g (deref O2 x) (deref O2 y)) O2 fun _ => (c ρ O2).bind fun z O3 => ofO (g' (deref O3 y) (deref O3 z)) O3 := by
  unfold mChain
  congr 1
@[simp] theorem m_isN {m : M D} {ρ : DEnv} {O : Store} : mIsN m ρ O = (m ρ O).bind fun d O1 => .ok (.bl (isNon d)) O1 := rfl
@[simp] theorem m_notN {m : M D} {ρ : DEnv} {O : Store} : mNotN m ρ O = (m ρ O).bind fun d O1 => .ok (.bl (!isNon d)) O1 := rfl
@[simp] theorem isNon_non : isNon .non = true := rfl
@[simp] theorem isNon_lst {l : List D} : isNon (.lst l) = false := rfl
@[simp] theorem isNon_tup {l : List D} : isNon (.tup l) = false := rfl
@[simp] theorem isNon_str {l : List Nat} : isNon (.str l) = false := rfl
@[simp] theorem isNon_int {l : Int} : isNon (.int l) = false := rfl
@[simp] theorem isNon_ob {l : Nat} : isNon (.ob l) = false := rfl
def teF (d : D) (O : Store) : Res Bool := match d with
  | .bl b => .ok b O
  | _ => .no
@[simp] theorem teF_bl {b : Bool} {O : Store} : teF (.bl b) O = .ok b O := rfl
@[simp] theorem m_test {m : M D} {ρ : DEnv} {O : Store} : mTest m ρ O = (m ρ O).bind teF := rfl
def ofB (o : Option Bool) (O : Store) : Res Bool := match o with
  | some d => .ok d O
  | none => .no
@[simp] theorem ofB_some {d : Bool} {O : Store} : ofB (some d) O = .ok d O := rfl
@[simp] theorem m_tru {m : M D} {ρ : DEnv} {O : Store} : mTru m ρ O = (m ρ O).bind fun d O1 => ofB (truD (deref O1 d)) O1 := rfl
@[simp] theorem truD_bl {b : Bool} : truD (.bl b) = some b := rfl
@[simp] theorem truD_lst {b : List D} : truD (.lst b) = some (!b.isEmpty) := rfl
@[simp] theorem mt_and {a b : M Bool} {ρ : DEnv} {O : Store} : mtAnd a b ρ O = (a ρ O).bind fun c O1 => if c = true then b ρ O1 else .ok false O1 := rfl
@[simp] theorem mt_or {a b : M Bool} {ρ : DEnv} {O : Store} : mtOr a b ρ O = (a ρ O).bind fun c O1 => if c = true then .ok true O1 else b ρ O1 := rfl
@[simp] theorem mt_not {a : M Bool} {ρ : DEnv} {O : Store} : mtNot a ρ O = (a ρ O).bind fun c O1 => .ok (!c) O1 := rfl
def anF (d : D) (O : Store) (f : Unit → Res D) : Res D := match d with
  | .bl true => f ()
  | .bl false => .ok (.bl false) O
  | _ => .no
def orF (d : D) (O : Store) (f : Unit → Res D) : Res D := match d with
  | .bl true => .ok (.bl true) O
  | .bl false => f ()
  | _ => .no
@[simp] theorem anF_b {b : Bool} {O : Store} {f : Unit → Res D} : anF (.bl b) O f = if b = true then f () else .ok (.bl false) O := by cases b <;> rfl
@[simp] theorem orF_b {b : Bool} {O : Store} {f : Unit → Res D} : orF (.bl b) O f = if b = true then .ok (.bl true) O else f () := by cases b <;> rfl
@[simp] theorem m_andV {a b : M D} {ρ : DEnv} {O : Store} : mAndV a b ρ O = (a ρ O).bind fun d O1 => anF d O1 fun _ => b ρ O1 := by
  unfold mAndV
  congr 1
@[simp] theorem m_orV {a b : M D} {ρ : DEnv} {O : Store} : mOrV a b ρ O = (a ρ O).bind fun d O1 => orF d O1 fun _ => b ρ O1 := by
  unfold mOrV
  congr 1
def noF (d : D) (O : Store) : Res D := match d with
  | .bl b => .ok (.bl (!b)) O
  | _ => .no
@[simp] theorem noF_b {b : Bool} {O : Store} : noF (.bl b) O = .ok (.bl (!b)) O := rfl
@[simp] theorem m_notV {a : M D} {ρ : DEnv} {O : Store} : mNotV a ρ O = (a ρ O).bind noF := rfl
@[simp] theorem m_if {t : M Bool} {a b : M D} {ρ : DEnv} {O : Store} : mIf t a b ρ O = (t ρ O).bind fun c O1 => if c = true then a ρ O1 else b ρ O1 := rfl
@[simp] theorem ma_nil {ρ : DEnv} {O : Store} : maNil ρ O = .ok [] O := rfl
@[simp] theorem ma_cons {m : M D} {r : M (List D)} {ρ : DEnv} {O : Store} : maCons m r ρ O = (m ρ O).bind fun d O1 => (r ρ O1).bind fun ds O2 => .ok (d :: ds) O2 := rfl
@[simp] theorem m_lst {r : M (List D)} {ρ : DEnv} {O : Store} : mLst r ρ O = (r ρ O).bind fun ds O1 => if ds.length ≤ 1000000 then .ok (.lst ds) O1 else .no := rfl
@[simp] theorem m_tup {r : M (List D)} {ρ : DEnv} {O : Store} : mTup r ρ O = (r ρ O).bind fun ds O1 => if ds.length ≤ 1000000 then .ok (.tup ds) O1 else .no := rfl
@[simp] theorem m_call {c : List D → Store → Res D} {ma : M (List D)} {ρ : DEnv} {O : Store} : mCall c ma ρ O = (ma ρ O).bind fun ds O1 => c ds O1 := rfl
@[simp] theorem m_callB {g : List D → Option D} {ma : M (List D)} {ρ : DEnv} {O : Store} : mCallB g ma ρ O = (ma ρ O).bind fun ds O1 => ofO (g (ds.map (deref O1))) O1 := rfl
@[simp] theorem m_un {g : D → Option D} {ma : M D} {ρ : DEnv} {O : Store} : mUn g ma ρ O = (ma ρ O).bind fun d O1 => ofO (g (deref O1 d)) O1 := rfl
def isF (n : String) (o : Option String) (O : Store) : Res D := match o with
  | some t => .ok (.bl (isTy t n)) O
  | none => .no
@[simp] theorem isF_some {n t : String} {O : Store} : isF n (some t) O = .ok (.bl (isTy t n)) O := rfl
@[simp] theorem m_isi {n : String} {m : M D} {ρ : DEnv} {O : Store} : mIsi n m ρ O = (m ρ O).bind fun d O1 => isF n (tyD (deref O1 d)) O1 := rfl
@[simp] theorem tyD_non : tyD .non = some "NoneType" := rfl
@[simp] theorem tyD_bl {b : Bool} : tyD (.bl b) = some "bool" := rfl
@[simp] theorem tyD_int {b : Int} : tyD (.int b) = some "int" := rfl
@[simp] theorem tyD_str {b : List Nat} : tyD (.str b) = some "str" := rfl
@[simp] theorem tyD_lst {b : List D} : tyD (.lst b) = some "list" := rfl
@[simp] theorem tyD_tup {b : List D} : tyD (.tup b) = some "tuple" := rfl
@[simp] theorem tyD_dic {a b : List D} : tyD (.dic a b) = some "dict" := rfl
@[simp] theorem mo_n {ρ : DEnv} {O : Store} : moN ρ O = .ok none O := rfl
def osF (d : D) (O : Store) : Res (Option Int) := match d with
  | .int i => .ok (some i) O
  | _ => .no
@[simp] theorem osF_i {i : Int} {O : Store} : osF (.int i) O = .ok (some i) O := rfl
@[simp] theorem mo_s {m : M D} {ρ : DEnv} {O : Store} : moS m ρ O = (m ρ O).bind osF := rfl
@[simp] theorem m_sl {m : M D} {lo hi : M (Option Int)} {ρ : DEnv} {O : Store} : mSl m lo hi ρ O = (m ρ O).bind fun d O1 => (lo ρ O1).bind fun l O2 => (hi ρ O2).bind fun h O3 => ofO (gSl (deref O3 d) l h) O3 := rfl
@[simp] theorem gSl_str {l : List Nat} {lo hi : Option Int} : gSl (.str l) lo hi = if l.length ≤ 16777216 then some (.str (cutN l lo hi)) else none := rfl
@[simp] theorem gSl_lst {l : List D} {lo hi : Option Int} : gSl (.lst l) lo hi = some (.lst (cutN l lo hi)) := rfl
@[simp] theorem gSl_tup {l : List D} {lo hi : Option Int} : gSl (.tup l) lo hi = some (.tup (cutN l lo hi)) := rfl
def seqF (f : Fl) (b : MS) : Fl := match f with
  | .nx ρ' O' => b ρ' O'
  | r => r
@[simp] theorem ms_seq {a b : MS} {ρ : DEnv} {O : Store} : msSeq a b ρ O = seqF (a ρ O) b := rfl
@[simp] theorem seqF_nx {ρ : DEnv} {O : Store} {b : MS} : seqF (.nx ρ O) b = b ρ O := rfl
@[simp] theorem seqF_rt {d : D} {O : Store} {b : MS} : seqF (.rt d O) b = .rt d O := rfl
@[simp] theorem seqF_bk {ρ : DEnv} {O : Store} {b : MS} : seqF (.bk ρ O) b = .bk ρ O := rfl
@[simp] theorem seqF_ct {ρ : DEnv} {O : Store} {b : MS} : seqF (.ct ρ O) b = .ct ρ O := rfl
@[simp] theorem seqF_no {b : MS} : seqF .no b = .no := rfl
@[simp] theorem ms_nil {ρ : DEnv} {O : Store} : msNil ρ O = .nx ρ O := rfl
def retF (r : Res D) : Fl := match r with
  | .ok d O' => .rt d O'
  | .ex x O' => .ex x O'
  | .no => .no
@[simp] theorem ms_ret {m : M D} {ρ : DEnv} {O : Store} : msRet m ρ O = retF (m ρ O) := rfl
@[simp] theorem retF_ok {d : D} {O : Store} : retF (.ok d O) = .rt d O := rfl
def dropF (r : Res D) (ρ : DEnv) : Fl := match r with
  | .ok _ O' => .nx ρ O'
  | .ex x O' => .ex x O'
  | .no => .no
@[simp] theorem ms_drop {m : M D} {ρ : DEnv} {O : Store} : msDrop m ρ O = dropF (m ρ O) ρ := rfl
@[simp] theorem dropF_ok {d : D} {O : Store} {ρ : DEnv} : dropF (.ok d O) ρ = .nx ρ O := rfl
def ifF (r : Res Bool) (a b : MS) (ρ : DEnv) : Fl := match r with
  | .ok c O' => if c = true then a ρ O' else b ρ O'
  | .ex x O' => .ex x O'
  | .no => .no
@[simp] theorem ms_if {t : M Bool} {a b : MS} {ρ : DEnv} {O : Store} : msIf t a b ρ O = ifF (t ρ O) a b ρ := rfl
@[simp] theorem ifF_ok {c : Bool} {O : Store} {a b : MS} {ρ : DEnv} : ifF (.ok c O) a b ρ = if c = true then a ρ O else b ρ O := rfl
def setF (i : Nat) (r : Res D) (ρ : DEnv) : Fl := match r with
  | .ok d O' => .nx (ρ.set i (some d)) O'
  | .ex x O' => .ex x O'
  | .no => .no
@[simp] theorem ms_set {i : Nat} {m : M D} {ρ : DEnv} {O : Store} : msSet i m ρ O = setF i (m ρ O) ρ := rfl
@[simp] theorem setF_ok {i : Nat} {d : D} {O : Store} {ρ : DEnv} : setF i (.ok d O) ρ = .nx (ρ.set i (some d)) O := rfl
def forF (r : Res (List D)) (g : MG) (b : MS) (ρ : DEnv) : Fl := match r with
  | .ok ds O' => floop g b ds ρ O'
  | .ex x O' => .ex x O'
  | .no => .no
@[simp] theorem ms_for {m : M (List D)} {g : MG} {b : MS} {ρ : DEnv} {O : Store} : msFor m g b ρ O = forF (m ρ O) g b ρ := rfl
@[simp] theorem forF_ok {ds : List D} {O : Store} {g : MG} {b : MS} {ρ : DEnv} : forF (.ok ds O) g b ρ = floop g b ds ρ O := rfl
@[simp] theorem mg_n {i : Nat} {d : D} {ρ : DEnv} : mgN i d ρ = some (ρ.set i (some d)) := rfl
def funF (f : Fl) : Res D := match f with
  | .rt d O' => .ok d O'
  | .nx _ O' => .ok .non O'
  | .ex x O' => .ex x O'
  | _ => .no
@[simp] theorem m_fun {n : Nat} {b : MS} {ds : List D} {O : Store} : mFun n b ds O = funF (b (ds.map some ++ List.replicate (n - ds.length) none) O) := rfl
@[simp] theorem funF_rt {d : D} {O : Store} : funF (.rt d O) = .ok d O := rfl
@[simp] theorem funF_nx {ρ : DEnv} {O : Store} : funF (.nx ρ O) = .ok .non O := rfl
@[simp] theorem m_rng1 {m : M (List D)} {ρ : DEnv} {O : Store} : mRng1 m ρ O = (m ρ O).bind fun ds O1 => match ds with
  | [.int j] => if j ≤ 1000000000 ∧ -1000000000 ≤ j then .ok (rangeD 0 j.toNat) O1 else .no
  | _ => .no := rfl
def itF (o : Option (List D)) (O : Store) : Res (List D) := match o with
  | some ds => .ok ds O
  | none => .no
@[simp] theorem itF_some {ds : List D} {O : Store} : itF (some ds) O = .ok ds O := rfl
@[simp] theorem m_iter {m : M D} {ρ : DEnv} {O : Store} : mIter m ρ O = (m ρ O).bind fun d O1 => itF (iterD d) O1 := rfl
@[simp] theorem iterD_lst {ds : List D} : iterD (.lst ds) = some ds := rfl
@[simp] theorem iterD_tup {ds : List D} : iterD (.tup ds) = some ds := rfl
theorem iterD_str {l : List Nat} (h : ascii l = true) : iterD (.str l) = some (signsD l) := by
  show (if ascii l = true then some (signsD l) else none) = _
  rw [if_pos h]
@[simp] theorem m_comp {m : M (List D)} {own : Nat} {cap : List Nat} {g : MG} {t : M Bool} {e : M D} {ρ : DEnv} {O : Store} : mComp m own cap g t e ρ O = (m ρ O).bind fun ds O1 => if ds.length ≤ 1000000 then (cloop g t e ds (cEnv own cap ρ) O1 []).bind fun ys O2 => .ok (.lst ys) O2 else .no := rfl
@[simp] theorem gAdd_i {i j : Int} : gAdd (.int i) (.int j) = some (.int (i + j)) := rfl
@[simp] theorem gAdd_s {a b : List Nat} : gAdd (.str a) (.str b) = if a.length + b.length ≤ 1000000 then some (.str (a ++ b)) else none := rfl
@[simp] theorem gAdd_l {a b : List D} : gAdd (.lst a) (.lst b) = if a.length + b.length ≤ 1000000 then some (.lst (a ++ b)) else none := rfl
@[simp] theorem gMinus_i {i j : Int} : gMinus (.int i) (.int j) = some (.int (i - j)) := rfl
@[simp] theorem gMod_i {i j : Int} : gMod (.int i) (.int j) = if 0 < j then some (.int (i % j)) else none := by
  unfold gMod gI
  by_cases h : 0 < j <;> simp [h]
@[simp] theorem gFdiv_i {i j : Int} : gFdiv (.int i) (.int j) = if 0 < j ∧ j < 1073741824 then some (.int (i / j)) else none := by
  unfold gFdiv gI
  by_cases h : 0 < j ∧ j < 1073741824 <;> simp [h]
theorem gMul_i {i j : Int} (h : (-(2 ^ 64) < i ∧ i < 2 ^ 64) ∨ (-(2 ^ 64) < j ∧ j < 2 ^ 64)) : gMul (.int i) (.int j) = some (.int (i * j)) := by
  unfold gMul
  dsimp only
  rw [if_pos]
  rw [Bool.or_eq_true]
  unfold small64
  rw [Bool.and_eq_true, Bool.and_eq_true, decide_eq_true_eq, decide_eq_true_eq, decide_eq_true_eq, decide_eq_true_eq]
  exact h
@[simp] theorem gLt_i {i j : Int} : gLt (.int i) (.int j) = some (.bl (decide (i < j))) := rfl
@[simp] theorem gGt_i {i j : Int} : gGt (.int i) (.int j) = some (.bl (decide (j < i))) := rfl
@[simp] theorem gGe_i {i j : Int} : gGe (.int i) (.int j) = some (.bl (decide (j ≤ i))) := rfl
@[simp] theorem gLe_i {i j : Int} : gLe (.int i) (.int j) = some (.bl (decide (i ≤ j))) := rfl
theorem one_lt (a b : Nat) : (([a] : List Nat) < [b]) ↔ a < b := by
  constructor
  · intro h
    rcases List.cons_lt_cons_iff.mp h with h | ⟨_, h⟩
    · exact h
    · exact absurd h (List.not_lt_nil _)
  · intro h
    exact List.cons_lt_cons_iff.mpr (.inl h)
@[simp] theorem gLe_1 {a b : Nat} : gLe (.str [a]) (.str [b]) = some (.bl (decide (a ≤ b))) := by
  show some (D.bl (!decide (([b] : List Nat) < [a]))) = _
  have : decide (([b] : List Nat) < [a]) = decide (b < a) := by
    by_cases h : b < a
    · rw [decide_eq_true h, decide_eq_true ((one_lt _ _).mpr h)]
    · rw [decide_eq_false h, decide_eq_false (fun z => h ((one_lt _ _).mp z))]
  rw [this]
  by_cases h : b < a
  · rw [decide_eq_true h, decide_eq_false (by omega)]; rfl
  · rw [decide_eq_false h, decide_eq_true (by omega)]; rfl
@[simp] theorem gEq_i {i j : Int} : gEq (.int i) (.int j) = some (.bl (decide (i = j))) := rfl
@[simp] theorem gEq_s {i j : List Nat} : gEq (.str i) (.str j) = some (.bl (decide (i = j))) := rfl
@[simp] theorem gEq_b {i j : Bool} : gEq (.bl i) (.bl j) = some (.bl (decide (i = j))) := rfl
@[simp] theorem gEq_l {i j : List D} : gEq (.lst i) (.lst j) = if (okE (.lst i) && okE (.lst j)) = true then some (.bl (eqDD (.lst i) (.lst j))) else none := rfl
@[simp] theorem gNe_i {i j : Int} : gNe (.int i) (.int j) = some (.bl (!decide (i = j))) := rfl
@[simp] theorem gNe_s {i j : List Nat} : gNe (.str i) (.str j) = some (.bl (!decide (i = j))) := rfl
@[simp] theorem gNe_b {i j : Bool} : gNe (.bl i) (.bl j) = some (.bl (!decide (i = j))) := rfl
@[simp] theorem gNe_l {i j : List D} : gNe (.lst i) (.lst j) = if (okE (.lst i) && okE (.lst j)) = true then some (.bl (!eqDD (.lst i) (.lst j))) else none := rfl
@[simp] theorem gIn_s {n : Bool} {c : Nat} {l : List Nat} : gIn n (.str [c]) (.str l) = some (.bl (n ^^ decide (c ∈ l))) := rfl
theorem gIx_l {ds : List D} {i : Int} : gIx (.lst ds) (.int i) = atI ds i := rfl
theorem gIx_s {l : List Nat} {i : Int} : gIx (.str l) (.int i) = if l.length ≤ 1000000 then (atI l i).map (fun c => .str [c]) else none := rfl
@[simp] theorem gLen_s {l : List Nat} : gLen [.str l] = if l.length ≤ 1000000 then some (.int l.length) else none := rfl
@[simp] theorem gLen_l {l : List D} : gLen [.lst l] = some (.int l.length) := rfl
@[simp] theorem gLen_t {l : List D} : gLen [.tup l] = some (.int l.length) := rfl
@[simp] theorem gMax_i {i j : Int} : gMax [.int i, .int j] = some (.int (if j > i then j else i)) := rfl
@[simp] theorem gMin_i {i j : Int} : gMin [.int i, .int j] = some (.int (if j < i then j else i)) := rfl
@[simp] theorem gInt_i {i : Int} : gInt [.int i] = some (.int i) := rfl
@[simp] theorem gInt_b {b : Bool} : gInt [.bl b] = some (.int (if b then 1 else 0)) := rfl
@[simp] theorem gPow_c : gPow (.int 10) (.int 18) = some (.int 1000000000000000000) := by rfl
@[simp] theorem gPow_d : gPow (.int 10) (.int 9) = some (.int 1000000000) := by rfl
@[simp] theorem atI_ofNat {α : Type} {xs : List α} {j : Nat} : atI xs (j : Int) = xs[j]? := by
  unfold atI ixN
  rw [if_pos (by omega)]
  by_cases h : j < xs.length
  · rw [if_pos (by omega)]
    simp
  · rw [if_neg (by omega), List.getElem?_eq_none (by omega)]
    rfl
theorem atI_in {α : Type} {xs : List α} {i : Int} (h0 : 0 ≤ i) (h1 : i < xs.length) : ∃ x, atI xs i = some x ∧ x ∈ xs := by
  obtain ⟨j, rfl⟩ := Int.eq_ofNat_of_zero_le h0
  have hj : j < xs.length := by omega
  exact ⟨xs[j], by show atI xs (j : Int) = _; rw [atI_ofNat, List.getElem?_eq_getElem hj], List.getElem_mem hj⟩
section
variable {c : Prop} [Decidable c]
@[simp] theorem funF_ite {a b : Fl} : funF (if c then a else b) = if c then funF a else funF b := by split <;> rfl
@[simp] theorem retF_ite {a b : Res D} : retF (if c then a else b) = if c then retF a else retF b := by split <;> rfl
@[simp] theorem seqF_ite {a b : Fl} {r : MS} : seqF (if c then a else b) r = if c then seqF a r else seqF b r := by split <;> rfl
@[simp] theorem bind_ite {α β : Type} {a b : Res α} {f : α → Store → Res β} : (if c then a else b).bind f = if c then a.bind f else b.bind f := by split <;> rfl
@[simp] theorem ifF_ite {a b : Res Bool} {x y : MS} {ρ : DEnv} : ifF (if c then a else b) x y ρ = if c then ifF a x y ρ else ifF b x y ρ := by split <;> rfl
@[simp] theorem setF_ite {a b : Res D} {i : Nat} {ρ : DEnv} : setF i (if c then a else b) ρ = if c then setF i a ρ else setF i b ρ := by split <;> rfl
@[simp] theorem ofO_ite {a b : Option D} {O : Store} : ofO (if c then a else b) O = if c then ofO a O else ofO b O := by split <;> rfl
end
@[simp] theorem isTy_1 : isTy "str" "str" = true := by decide
@[simp] theorem isTy_2 : isTy "int" "str" = false := by decide
@[simp] theorem isTy_3 : isTy "bool" "str" = false := by decide
@[simp] theorem isTy_4 : isTy "list" "str" = false := by decide
@[simp] theorem isTy_5 : isTy "tuple" "str" = false := by decide
@[simp] theorem isTy_6 : isTy "dict" "str" = false := by decide
@[simp] theorem isTy_7 : isTy "NoneType" "str" = false := by decide
@[simp] theorem isTy_8 : isTy "int" "int" = true := by decide
@[simp] theorem isTy_9 : isTy "int" "bool" = false := by decide
@[simp] theorem isTy_10 : isTy "bool" "bool" = true := by decide
@[simp] theorem isTy_11 : isTy "list" "list" = true := by decide
@[simp] theorem isTy_12 : isTy "tuple" "tuple" = true := by decide
@[simp] theorem isTy_13 : isTy "NoneType" "list" = false := by decide
theorem floop_ind {g : MG} {b : MS} (Pv : Nat → DEnv → Store → Prop) : ∀ (ds : List D) (k : Nat) (ρ : DEnv) (O : Store), Pv k ρ O →
    (∀ i d ρ O, ds[i]? = some d → Pv (k + i) ρ O → ∃ ρ1, g d ρ = some ρ1 ∧ ∃ ρ2 O2, (b ρ1 O = .nx ρ2 O2 ∨ b ρ1 O = .ct ρ2 O2) ∧ Pv (k + i + 1) ρ2 O2) → ∃ ρ' O', floop g b ds ρ O = .nx ρ' O' ∧ Pv (k + ds.length) ρ' O'
  | [], k, ρ, O, h, _ => ⟨ρ, O, rfl, h⟩
  | d :: ds, k, ρ, O, h, hs => by
    obtain ⟨ρ1, e1, ρ2, O2, e2, h2⟩ := hs 0 d ρ O rfl h
    obtain ⟨ρ', O', e3, h3⟩ := floop_ind Pv ds (k + 1) ρ2 O2 h2 fun i d' ρ' O' hi hp => by
      have := hs (i + 1) d' ρ' O' (by simpa using hi) (by rw [show k + (i + 1) = k + 1 + i by omega]; exact hp)
      rw [show k + (i + 1) + 1 = k + 1 + i + 1 by omega] at this
      exact this
    refine ⟨ρ', O', ?_, by rw [List.length_cons, show k + (ds.length + 1) = k + 1 + ds.length by omega]; exact h3⟩
    unfold floop
    rw [e1]
    dsimp only
    rcases e2 with e2 | e2 <;> rw [e2] <;> exact e3
theorem cloop_map {g : MG} {t : M Bool} {m : M D} (Pv : DEnv → Prop) (f : D → D) : ∀ (ds : List D) (ρ : DEnv) (O : Store) (acc : List D), Pv ρ → (∀ d ∈ ds, ∀ ρ, Pv ρ → ∃ ρ1, g d ρ = some ρ1 ∧ Pv ρ1 ∧ t ρ1 O = .ok true O ∧ m ρ1 O = .ok (f d) O) → cloop g t m ds ρ O acc = .ok (acc ++ ds.map f) O
  | [], ρ, O, acc, _, _ => by simp [cloop]
  | d :: ds, ρ, O, acc, h, hs => by
    obtain ⟨ρ1, e1, h1, e2, e3⟩ := hs d List.mem_cons_self ρ h
    unfold cloop
    rw [e1]
    dsimp only
    rw [e2]
    dsimp only
    rw [e3]
    dsimp only
    rw [cloop_map Pv f ds ρ1 O _ h1 fun d' hd' => hs d' (List.mem_cons_of_mem _ hd')]
    simp
@[simp] theorem mp_nil {ρ : DEnv} {O : Store} : mpNil ρ O = .ok [] O := rfl
@[simp] theorem mp_cons {a b : M D} {r : M (List (D × D))} {ρ : DEnv} {O : Store} : mpCons a b r ρ O = (a ρ O).bind fun x O1 => (b ρ O1).bind fun y O2 => (r ρ O2).bind fun ps O3 => .ok ((x, y) :: ps) O3 := rfl
def diF (o : Option (List Key)) (kv : List (D × D)) (O : Store) : Res D := match o with
  | some ks => if ks.Nodup ∧ kv.length ≤ 15 then .ok (.dic (kv.map (·.1)) (kv.map (·.2))) O else .no
  | none => .no
@[simp] theorem diF_some {ks : List Key} {kv : List (D × D)} {O : Store} : diF (some ks) kv O = if ks.Nodup ∧ kv.length ≤ 15 then .ok (.dic (kv.map (·.1)) (kv.map (·.2))) O else .no := rfl
@[simp] theorem m_disp {m : M (List (D × D))} {ρ : DEnv} {O : Store} : mDisp m ρ O = (m ρ O).bind fun kv O1 => diF (keysOf kv) kv O1 := rfl
@[simp] theorem keyOf_i {i : Int} : keyOf (.int i) = some (.inl i) := rfl
@[simp] theorem keyOf_s {i : List Nat} : keyOf (.str i) = some (.inr (S i)) := rfl
@[simp] theorem keysOf_nil : keysOf [] = some [] := rfl
@[simp] theorem keysOf_cons {a b : D} {r : List (D × D)} : keysOf ((a, b) :: r) = (keyOf a).bind fun k => (keysOf r).map (k :: ·) := rfl
def joF (o : Option (List (List Nat))) (O : Store) : Res D := match o with
  | some ls => if (ls.map List.length).sum ≤ 1000000 then .ok (.str ls.flatten) O else .no
  | none => .no
@[simp] theorem joF_some {ls : List (List Nat)} {O : Store} : joF (some ls) O = if (ls.map List.length).sum ≤ 1000000 then .ok (.str ls.flatten) O else .no := rfl
def jdF (d : D) (O : Store) : Res D := match d with
  | .lst ds => joF (strsD ds) O
  | _ => .no
@[simp] theorem jdF_l {ds : List D} {O : Store} : jdF (.lst ds) O = joF (strsD ds) O := rfl
@[simp] theorem m_join {m : M D} {ρ : DEnv} {O : Store} : mJoin m ρ O = (m ρ O).bind fun d O1 => jdF (deref O1 d) O1 := rfl
theorem strsD_map {α : Type} {f : α → List Nat} : ∀ l : List α, strsD (l.map fun x => .str (f x)) = some (l.map f)
  | [] => rfl
  | x :: l => by
    show (strsD (l.map fun x => D.str (f x))).map _ = _
    rw [strsD_map l]
    rfl
@[simp] theorem c_env {own : Nat} {cap : List Nat} {ρ : DEnv} : cEnv own cap ρ = List.replicate own none ++ cap.map fun j => (ρ[j]?).join := rfl
@[simp] theorem cloop_nil {g : MG} {t : M Bool} {m : M D} {ρ : DEnv} {O : Store} {acc : List D} : cloop g t m [] ρ O acc = .ok acc O := rfl
theorem toPs_map : ∀ ds : List D, toPs ds = ds.map toP
  | [] => rfl
  | d :: ds => by rw [toPs, toPs_map ds]; rfl
theorem plainDs_all : ∀ {ds : List D}, (∀ d ∈ ds, plainD d = true) → plainDs ds = true
  | [], _ => rfl
  | d :: ds, h => by rw [plainDs, h d List.mem_cons_self, plainDs_all fun x hx => h x (List.mem_cons_of_mem _ hx)]; rfl
theorem okE_lst {n : Nat} (hn : n < 60) {ds : List D} (h : ∀ d ∈ ds, plainD d = true ∧ (toP d).canLay0 = true ∧ (toP d).depth ≤ n) : okE (.lst ds) = true := by
  unfold okE
  rw [Bool.and_eq_true]
  refine ⟨?_, ?_⟩
  · rw [plainD]; exact plainDs_all fun d hd => (h d hd).1
  · rw [toP, toPs_map]
    refine ok_list hn fun d hd => ?_
    obtain ⟨x, hx, rfl⟩ := List.mem_map.mp hd
    exact (h x hx).2
theorem lay_str {l : List Nat} (h : ∀ c ∈ l, c < 1114112) : (PyData.str (S l)).canLay0 = true := by
  show PyData.strOk (S l) = true
  unfold PyData.strOk S
  simp
  exact h
theorem eqDD_refl {d : D} (h : okE d = true) : eqDD d d = true := by
  unfold okE at h
  rw [Bool.and_eq_true] at h
  have := h.2
  unfold okD at this
  rw [Bool.and_eq_true] at this
  exact SeqAt.eqv_refl _ this.1
end L2
namespace L2
open PySem PySem.Spec PyProof.Rows
def it (f : Int → Int) : Nat → Int → Int
  | 0, x => x
  | n + 1, x => f (it f n x)
def mix (n k : Int) : Int := if n > 1000000000000000000 then it (fun r => r / 1000000000) k.toNat n % 1000000000
  else
    let m := it (fun m => (m * 48271 + 104729) % 2147483629) (k + 2).toNat (n % 2147483647 + 7919)
    m * m % 998244353 / 11
theorem it_lt (j : Nat) (x : Int) (h0 : 0 ≤ x) (h1 : x < 2147491566) : 0 ≤ it (fun m => (m * 48271 + 104729) % 2147483629) j x ∧ it (fun m => (m * 48271 + 104729) % 2147483629) j x < 2147491566 := by
  induction j with
  | zero => exact ⟨h0, h1⟩
  | succ j ih =>
    refine ⟨Int.emod_nonneg _ (by decide), ?_⟩
    have := Int.emod_lt_of_pos (it (fun m => (m * 48271 + 104729) % 2147483629) j x * 48271 + 104729) (show (0 : Int) < 2147483629 by decide)
    show (it (fun m => (m * 48271 + 104729) % 2147483629) j x * 48271 + 104729) % 2147483629 < _
    omega
def B_mix : MS := (msSeq (msIf (mTest (mBin gGt (mVar 0) (mBin gPow (mC (.int 10)) (mC (.int 18))))) (msSeq (msSet 2 (mG (mVar 0)))
    (msSeq (msFor (mRng1 (maCons (mVar 1) maNil)) (mgN 3) (msSet 2 (mBin gFdiv (mVar 2) (mBin gPow (mC (.int 10)) (mC (.int 9))))))
    (msRet (mBin gMod (mVar 2) (mBin gPow (mC (.int 10)) (mC (.int 9))))))) msNil)
    (msSeq (msSet 4 (mBin gAdd (mBin gMod (mVar 0) (mC (.int 2147483647))) (mC (.int 7919))))
    (msSeq (msFor (mRng1 (maCons (mBin gAdd (mVar 1) (mC (.int 2))) maNil)) (mgN 3) (msSet 4 (mBin gMod (mBin gAdd (mBin gMul (mVar 4) (mC (.int 48271))) (mC (.int 104729))) (mC (.int 2147483629)))))
    (msRet (mBin gFdiv (mBin gMod (mBin gMul (mVar 4) (mVar 4)) (mC (.int 998244353))) (mC (.int 11)))))))
theorem rangeD_len (lo : Int) (n : Nat) : (rangeD lo n).length = n := by simp [rangeD]
theorem mix_eq (n k : Int) (h0 : 0 ≤ k) (h1 : k ≤ 1000000) (O : Store) : mFun 5 B_mix [.int n, .int k] O = .ok (.int (mix n k)) O := by
  unfold mix
  by_cases hn : n > 1000000000000000000
  · obtain ⟨ρ', O', e, rfl, o3, rfl⟩ := floop_ind (g := mgN 3) (b := msSet 2 (mBin gFdiv (mVar 2) (mBin gPow (mC (.int 10)) (mC (.int 9)))))
      (fun i ρ O' => O' = O ∧ ∃ o3, ρ = [some (.int n), some (.int k), some (.int (it (fun r => r / 1000000000) i n)), o3, none]) (rangeD 0 k.toNat) 0 [some (.int n), some (.int k), some (.int n), none, none] O ⟨rfl, none, rfl⟩ (by
        rintro i d ρ O' hi ⟨rfl, o3, rfl⟩
        refine ⟨_, rfl, ?_⟩
        simp
        rw [show it (fun r => r / 1000000000) (i + 1) n = it (fun r => r / 1000000000) i n / 1000000000 from rfl]
        exact ⟨_, _, ⟨rfl, rfl⟩, rfl, _, rfl⟩)
    rw [rangeD_len, Nat.zero_add] at e
    have hk : k ≤ 1000000000 ∧ -1000000000 ≤ k := by omega
    simp [B_mix, hn, hk, e]
  · have hm0 : 0 ≤ n % 2147483647 + 7919 := by have := Int.emod_nonneg n (show (2147483647 : Int) ≠ 0 by decide); omega
    have hm1 : n % 2147483647 + 7919 < 2147491566 := by have := Int.emod_lt_of_pos n (show (0 : Int) < 2147483647 by decide); omega
    obtain ⟨ρ', O', e, rfl, o3, rfl⟩ := floop_ind (g := mgN 3) (b := msSet 4 (mBin gMod (mBin gAdd (mBin gMul (mVar 4) (mC (.int 48271))) (mC (.int 104729))) (mC (.int 2147483629))))
      (fun i ρ O' => O' = O ∧ ∃ o3, ρ = [some (.int n), some (.int k), none, o3, some (.int (it (fun m => (m * 48271 + 104729) % 2147483629) i (n % 2147483647 + 7919)))]) (rangeD 0 (k + 2).toNat) 0 [some (.int n), some (.int k), none, none, some (.int (n % 2147483647 + 7919))] O ⟨rfl, none, rfl⟩ (by
        rintro i d ρ O' hi ⟨rfl, o3, rfl⟩
        refine ⟨_, rfl, ?_⟩
        obtain ⟨b0, b1⟩ := it_lt i _ hm0 hm1
        have := gMul_i (i := it (fun m => (m * 48271 + 104729) % 2147483629) i (n % 2147483647 + 7919)) (j := 48271) (.inr ⟨by decide, by decide⟩)
        simp [this]
        rw [show it (fun m => (m * 48271 + 104729) % 2147483629) (i + 1) (n % 2147483647 + 7919) = (it (fun m => (m * 48271 + 104729) % 2147483629) i (n % 2147483647 + 7919) * 48271 + 104729) % 2147483629 from rfl]
        exact ⟨_, _, ⟨rfl, rfl⟩, rfl, _, rfl⟩)
    rw [rangeD_len, Nat.zero_add] at e
    have hk : k + 2 ≤ 1000000000 ∧ -1000000000 ≤ k + 2 := by omega
    obtain ⟨b0, b1⟩ := it_lt (k + 2).toNat _ hm0 hm1
    have hq := gMul_i (i := it (fun m => (m * 48271 + 104729) % 2147483629) (k + 2).toNat (n % 2147483647 + 7919)) (j := it (fun m => (m * 48271 + 104729) % 2147483629) (k + 2).toNat (n % 2147483647 + 7919)) (.inl ⟨by omega, by omega⟩)
    simp [B_mix, hn, hk, e, hq]
end L2
namespace L2
open PySem PySem.Spec PyProof.Rows
def fldF (cs : List Str) (f : Str) (d : D) (O : Store) : Res D := match d with
  | .ob n => match O[n]? with
    | some (.ins c fs) => if c ∈ cs then match fs.lookup f with
      | some y => .ok y O
      | none => .no else .no
    | _ => .no
  | _ => .no
@[simp] theorem m_fld {cs : List Str} {f : Str} {m : M D} {ρ : DEnv} {O : Store} : mFld cs f m ρ O = (m ρ O).bind (fldF cs f) := rfl
def puF (cs : List Str) (f : Str) (d : D) (ρ : DEnv) (r : Res D) : Fl := match r with
  | .ok (.ob n) O2 => match O2[n]? with
    | some (.ins c fs) => if c ∈ cs ∧ fs.length < 900 then .nx ρ (O2.set n (.ins c (putD f d fs))) else .no
    | _ => .no
  | _ => .no
def sfF (cs : List Str) (f : Str) (mo : M D) (r : Res D) (ρ : DEnv) : Fl := match r with
  | .ok d O1 => puF cs f d ρ (mo ρ O1)
  | .ex x O' => .ex x O'
  | .no => .no
@[simp] theorem ms_fld {cs : List Str} {f : Str} {mo mv : M D} {ρ : DEnv} {O : Store} : msFld cs f mo mv ρ O = sfF cs f mo (mv ρ O) ρ := by
  unfold msFld sfF puF
  cases mv ρ O <;> rfl
@[simp] theorem sfF_ok {cs : List Str} {f : Str} {mo : M D} {d : D} {O : Store} {ρ : DEnv} : sfF cs f mo (.ok d O) ρ = puF cs f d ρ (mo ρ O) := rfl
def meF (c m : Str) (cf : List D → Store → Res D) (ma : Store → Res (List D)) (d : D) (O1 : Store) : Res D := match d with
  | .ob n => match O1[n]? with
    | some (.ins c' fs) => if c' = c ∧ (fs.lookup m).isNone = true then (ma O1).bind fun ds O2 => cf (.ob n :: ds) O2 else .no
    | _ => .no
  | _ => .no
@[simp] theorem m_meth {c m : Str} {cf : List D → Store → Res D} {mo : M D} {ma : M (List D)} {ρ : DEnv} {O : Store} : mMeth c m cf mo ma ρ O = (mo ρ O).bind (meF c m cf (ma ρ)) := rfl
def mkF (n : Nat) (r : Res D) : Res D := match r with
  | .ok .non O2 => .ok (.ob n) O2
  | .ok _ _ => .no
  | .ex x O2 => .ex x O2
  | .no => .no
@[simp] theorem m_make {c : Str} {cf : List D → Store → Res D} {ma : M (List D)} {ρ : DEnv} {O : Store} : mMake c cf ma ρ O = (ma ρ O).bind fun ds O1 => mkF O1.length (cf (.ob O1.length :: ds) (O1 ++ [.ins c []])) := by
  unfold mMake
  congr 1
@[simp] theorem mkF_ok {n : Nat} {O : Store} : mkF n (.ok .non O) = .ok (.ob n) O := rfl
def apF (i : Nat) (r : Res D) (ρ : DEnv) : Fl := match r with
  | .ok d O' => match ρ[i]? with
    | some (some (.lst ds)) => if ds.length < 1000000 then .nx (ρ.set i (some (.lst (ds ++ [d])))) O' else .no
    | _ => .no
  | .ex x O' => .ex x O'
  | .no => .no
@[simp] theorem ms_app {i : Nat} {m : M D} {ρ : DEnv} {O : Store} : msApp i m ρ O = apF i (m ρ O) ρ := rfl
theorem apF_ok {i : Nat} {d : D} {ds : List D} {ρ : DEnv} {O : Store} (h : ρ[i]? = some (some (.lst ds))) (hl : ds.length < 1000000) : apF i (.ok d O) ρ = .nx (ρ.set i (some (.lst (ds ++ [d])))) O := by
  unfold apF; dsimp only; rw [h]; dsimp only; rw [if_pos hl]
def exF (i : Nat) (r : Res D) (ρ : DEnv) : Fl := match r with
  | .ok d O' => match ρ[i]?, deref O' d with
    | some (some (.lst ds)), .lst es => if ds.length + es.length ≤ 1000000 then .nx (ρ.set i (some (.lst (ds ++ es)))) O' else .no
    | _, _ => .no
  | .ex x O' => .ex x O'
  | .no => .no
@[simp] theorem ms_ext {i : Nat} {m : M D} {ρ : DEnv} {O : Store} : msExt i m ρ O = exF i (m ρ O) ρ := rfl
theorem exF_ok {i : Nat} {es ds : List D} {ρ : DEnv} {O : Store} (h : ρ[i]? = some (some (.lst ds))) (hl : ds.length + es.length ≤ 1000000) : exF i (.ok (.lst es) O) ρ = .nx (ρ.set i (some (.lst (ds ++ es)))) O := by
  unfold exF; dsimp only [deref]; rw [h]; dsimp only; rw [if_pos hl]
def enF (d : D) (O1 : Store) : Res (List D) := match d with
  | .lst ds => .ok (enumD 0 ds) O1
  | .str l => if ascii l = true then .ok (enumD 0 (signsD l)) O1 else .no
  | _ => .no
@[simp] theorem m_enum {m : M D} {ρ : DEnv} {O : Store} : mEnum m ρ O = (m ρ O).bind enF := rfl
theorem enF_str {l : List Nat} {O : Store} (h : ascii l = true) : enF (.str l) O = .ok (enumD 0 (signsD l)) O := by
  show (if ascii l = true then _ else _) = _
  rw [if_pos h]
def asF (r : Res D) (g : MG) (ρ : DEnv) : Fl := match r with
  | .ok d O' => match g d ρ with
    | some ρ' => .nx ρ' O'
    | none => .no
  | .ex x O' => .ex x O'
  | .no => .no
@[simp] theorem ms_asg {m : M D} {g : MG} {ρ : DEnv} {O : Store} : msAsg m g ρ O = asF (m ρ O) g ρ := rfl
theorem asF_ok {d : D} {g : MG} {ρ ρ' : DEnv} {O : Store} (h : g d ρ = some ρ') : asF (.ok d O) g ρ = .nx ρ' O := by
  unfold asF; dsimp only; rw [h]
@[simp] theorem mg_2 {i j : Nat} {a b : D} {ρ : DEnv} : mgN' 2 (mgsCons (mgN i) (mgsCons (mgN j) mgsNil)) (.tup [a, b]) ρ = some ((ρ.set i (some a)).set j (some b)) := rfl
def stF (a b : D) (O : Store) : Res D := match a, b with
  | .str l, .str n => .ok (.bl (decide (l.take n.length = n))) O
  | _, _ => .no
@[simp] theorem m_starts {a b : M D} {ρ : DEnv} {O : Store} : mStarts a b ρ O = (a ρ O).bind fun x O1 => (b ρ O1).bind fun y O2 => stF x y O2 := rfl
@[simp] theorem stF_s {l n : List Nat} {O : Store} : stF (.str l) (.str n) O = .ok (.bl (decide (l.take n.length = n))) O := rfl
theorem wloop_ind {t : M Bool} {b : MS} (Pv : Nat → DEnv → Store → Prop) : ∀ (n : Nat) (k : Nat) (ρ : DEnv) (O : Store), k < n → Pv k ρ O →
    (∀ k ρ O, Pv (k + 1) ρ O → t ρ O = .ok true O ∧ ∃ j ρ2 O2, j ≤ k ∧ b ρ O = .nx ρ2 O2 ∧ Pv j ρ2 O2) → (∀ ρ O, Pv 0 ρ O → t ρ O = .ok false O) → ∃ ρ' O', wloop t b n ρ O = .nx ρ' O' ∧ Pv 0 ρ' O'
  | 0, k, ρ, O, hk, _, _, _ => absurd hk (Nat.not_lt_zero _)
  | n + 1, 0, ρ, O, _, h, _, h0 => by
    refine ⟨ρ, O, ?_, h⟩
    unfold wloop
    rw [h0 ρ O h]
  | n + 1, k + 1, ρ, O, hk, h, hs, h0 => by
    obtain ⟨e1, j, ρ2, O2, hj, e2, h2⟩ := hs k ρ O h
    obtain ⟨ρ', O', e3, h3⟩ := wloop_ind Pv n j ρ2 O2 (by omega) h2 hs h0
    refine ⟨ρ', O', ?_, h3⟩
    unfold wloop
    rw [e1]
    dsimp only
    rw [e2]
    exact e3
def kEnd : List Nat := [101, 110, 100]
def kAnew : List Nat := [97, 110, 101, 119]
def kPlain : List Nat := [112, 108, 97, 105, 110]
def kSign : List Nat := [115, 105, 103, 110]
def kInk : List Nat := [105, 110, 107]
def kGround : List Nat := [103, 114, 111, 117, 110, 100]
def item (p : Int) (k v : List Nat) : D := .tup [.int p, .str k, .str v]
def col (c : Nat) : Bool := decide (c ∈ [97, 98, 99, 100, 101, 102, 103, 104, 46])
theorem col_ne {c : Nat} (h : col c = true) : c ≠ 91 ∧ c ≠ 93 ∧ c ≠ 47 ∧ c ≠ 10 ∧ c ≠ 9 := by
  have : c ∈ [97, 98, 99, 100, 101, 102, 103, 104, 46] := of_decide_eq_true h
  have q : ∀ c ∈ [97, 98, 99, 100, 101, 102, 103, 104, 46], c ≠ 91 ∧ c ≠ 93 ∧ c ≠ 47 ∧ c ≠ 10 ∧ c ≠ 9 := by decide
  exact q c this
def oneG (x : Nat) : List Nat → List Nat × List Nat × Nat
  | [] => (kSign, [91], 0)
  | e :: _ => if e = 93 then (kGround, [x], 3) else (kSign, [91], 0)
def oneH : List Nat → List Nat × List Nat × Nat
  | [] => (kSign, [91], 0)
  | x :: t => if col x = true then oneG x t else (kSign, [91], 0)
def oneC (x : Nat) : List Nat → List Nat × List Nat × Nat
  | [] => (kSign, [91], 0)
  | e :: _ => if e = 93 then (kInk, [x], 2) else (kSign, [91], 0)
def oneB : List Nat → List Nat × List Nat × Nat
  | [] => (kSign, [91], 0)
  | d :: t => if d = 93 then (kPlain, [], 1) else if d = 91 then (kSign, [91], 1) else if col d = true then oneC d t else if d = 47 then oneH t else (kSign, [91], 0)
def one (c : Nat) (t : List Nat) : List Nat × List Nat × Nat :=
  if c = 10 then (kEnd, [], 0) else if c = 9 then (kAnew, [], 0) else if c = 91 then oneB t else (kSign, [c], 0)
def items (p : Int) : List Nat → List D
  | [] => []
  | c :: t => item p (one c t).1 (one c t).2.1 :: items (p + ((one c t).2.2 + 1 : Nat)) (t.drop (one c t).2.2)
termination_by l => l.length
decreasing_by
  simp only [List.length_drop, List.length_cons]
  omega
theorem items_nil (p : Int) : items p [] = [] := by rw [items]
theorem items_cons (p : Int) (c : Nat) (t : List Nat) : items p (c :: t) = item p (one c t).1 (one c t).2.1 :: items (p + ((one c t).2.2 + 1 : Nat)) (t.drop (one c t).2.2) := by rw [items]
def own (p : Int) (c : Nat) : D := if c = 10 then item p kEnd [] else if c = 9 then item p kAnew [] else item p kSign [c]
def owns : Int → List Nat → List D
  | _, [] => []
  | p, c :: l => own p c :: owns (p + 1) l
theorem items_own {p : Int} {c : Nat} {t : List Nat} (h : c ≠ 91) : items p (c :: t) = own p c :: items (p + 1) t := by
  rw [items_cons]
  unfold one own
  by_cases h1 : c = 10
  · simp [h1]
  · by_cases h2 : c = 9
    · simp [h1, h2]
    · simp [h1, h2, h]
theorem items_br {p : Int} {t : List Nat} (h : oneB t = (kSign, [91], 0)) : items p (91 :: t) = own p 91 :: items (p + 1) t := by
  rw [items_cons]
  have : one 91 t = (kSign, [91], 0) := h
  rw [this]
  rfl
theorem items_br' {p : Int} {t : List Nat} {k v : List Nat} {n : Nat} (h : oneB t = (k, v, n)) : items p (91 :: t) = item p k v :: items (p + (n + 1 : Nat)) (t.drop n) := by
  rw [items_cons]
  have : one 91 t = (k, v, n) := h
  rw [this]
def mayB : List Nat → Bool
  | [a] => decide (a = 91)
  | [a, b] => decide (a = 91) && (decide (b = 47) || col b)
  | [a, b, c] => decide (a = 91) && (decide (b = 47) && col c)
  | _ => false
def markB : List Nat → Option (List Nat × List Nat)
  | [a, b] => if a = 91 ∧ b = 93 then some (kPlain, []) else if a = 91 ∧ b = 91 then some (kSign, [91]) else none
  | [a, b, c] => if a = 91 ∧ col b = true ∧ c = 93 then some (kInk, [b]) else none
  | [a, b, c, d] => if a = 91 ∧ b = 47 ∧ col c = true ∧ d = 93 then some (kGround, [c]) else none
  | _ => none
def tk (h : List Nat) (c : Nat) (p : Int) : List D × List Nat :=
  if mayB (h ++ [c]) = true then ([], h ++ [c]) else match markB (h ++ [c]) with
  | some (k, v) => ([item p k v], [])
  | none => if c = 91 then (owns p h, [91]) else (owns p (h ++ [c]), [])
inductive Held : List Nat → Prop where
  | h0 : Held []
  | h1 : Held [91]
  | h2 : Held [91, 47]
  | h3 (x : Nat) (h : col x = true) : Held [91, x]
  | h4 (x : Nat) (h : col x = true) : Held [91, 47, x]
theorem Held.len {h : List Nat} (H : Held h) : h.length ≤ 3 := by cases H <;> simp
theorem col_91 : col 91 = false := by decide
theorem col_93 : col 93 = false := by decide
theorem col_47 : col 47 = false := by decide
theorem take_items {h : List Nat} (H : Held h) (c : Nat) (p : Int) (rest : List Nat) :
    Held (tk h c p).2 ∧ items p (h ++ c :: rest) = (tk h c p).1 ++ items (p + h.length + 1 - (tk h c p).2.length) ((tk h c p).2 ++ rest) := by
  cases H with
  | h0 =>
    by_cases h1 : c = 91
    · subst h1
      refine ⟨Held.h1, ?_⟩
      simp [tk, mayB]
    · have : tk [] c p = ([own p c], []) := by simp [tk, mayB, markB, h1, owns]
      rw [this]
      refine ⟨Held.h0, ?_⟩
      simp [items_own h1]
  | h1 =>
    by_cases h2 : c = 93
    · subst h2
      have : tk [91] 93 p = ([item p kPlain []], []) := by simp [tk, mayB, markB, col_93]
      rw [this]
      refine ⟨Held.h0, ?_⟩
      show items p (91 :: 93 :: rest) = _
      rw [items_br' (k := kPlain) (v := []) (n := 1) rfl]
      simp [Int.add_assoc]
    · by_cases h1 : c = 91
      · subst h1
        have : tk [91] 91 p = ([item p kSign [91]], []) := by simp [tk, mayB, markB, col_91]
        rw [this]
        refine ⟨Held.h0, ?_⟩
        show items p (91 :: 91 :: rest) = _
        rw [items_br' (k := kSign) (v := [91]) (n := 1) rfl]
        simp [Int.add_assoc]
      · by_cases h3 : c = 47
        · subst h3
          have : tk [91] 47 p = ([], [91, 47]) := by simp [tk, mayB]
          rw [this]
          exact ⟨Held.h2, by simp; congr 1; omega⟩
        · by_cases h4 : col c = true
          · have : tk [91] c p = ([], [91, c]) := by simp [tk, mayB, h4]
            rw [this]
            exact ⟨Held.h3 c h4, by simp; congr 1; omega⟩
          · have : tk [91] c p = ([own p 91, own (p + 1) c], []) := by simp [tk, mayB, markB, h1, h2, h3, h4, owns]
            rw [this]
            refine ⟨Held.h0, ?_⟩
            show items p (91 :: c :: rest) = _
            rw [items_br (by simp [oneB, h1, h2, h3, h4]), items_own h1]
            simp
  | h2 =>
    by_cases h4 : col c = true
    · have : tk [91, 47] c p = ([], [91, 47, c]) := by simp [tk, mayB, h4]
      rw [this]
      exact ⟨Held.h4 c h4, by simp; congr 1; omega⟩
    · by_cases h1 : c = 91
      · subst h1
        have : tk [91, 47] 91 p = ([own p 91, own (p + 1) 47], [91]) := by simp [tk, mayB, markB, col_47, col_91, owns]
        rw [this]
        refine ⟨Held.h1, ?_⟩
        show items p (91 :: 47 :: 91 :: rest) = _
        rw [items_br (by simp [oneB, oneH, col_47, col_91]), items_own (by decide)]
        simp
        congr 1
        omega
      · have : tk [91, 47] c p = ([own p 91, own (p + 1) 47, own (p + 1 + 1) c], []) := by simp [tk, mayB, markB, h1, h4, col_47, owns]
        rw [this]
        refine ⟨Held.h0, ?_⟩
        show items p (91 :: 47 :: c :: rest) = _
        rw [items_br (by simp [oneB, oneH, col_47, h4]), items_own (by decide), items_own h1]
        simp
        congr 1
        omega
  | h3 x hx =>
    obtain ⟨n1, n2, n3, n4, n5⟩ := col_ne hx
    by_cases h2 : c = 93
    · subst h2
      have : tk [91, x] 93 p = ([item p kInk [x]], []) := by simp [tk, mayB, markB, col_93, hx]
      rw [this]
      refine ⟨Held.h0, ?_⟩
      show items p (91 :: x :: 93 :: rest) = _
      rw [items_br' (k := kInk) (v := [x]) (n := 2) (by simp [oneB, oneC, n1, n2, hx])]
      simp
      congr 1
      omega
    · by_cases h1 : c = 91
      · subst h1
        have : tk [91, x] 91 p = ([own p 91, own (p + 1) x], [91]) := by simp [tk, mayB, markB, n3, owns]
        rw [this]
        refine ⟨Held.h1, ?_⟩
        show items p (91 :: x :: 91 :: rest) = _
        rw [items_br (by simp [oneB, oneC, n1, n2, hx]), items_own n1]
        simp
        congr 1
        omega
      · have : tk [91, x] c p = ([own p 91, own (p + 1) x, own (p + 1 + 1) c], []) := by simp [tk, mayB, markB, h1, h2, n3, owns]
        rw [this]
        refine ⟨Held.h0, ?_⟩
        show items p (91 :: x :: c :: rest) = _
        rw [items_br (by simp [oneB, oneC, n1, n2, hx, h2]), items_own n1, items_own h1]
        simp
        congr 1
        omega
  | h4 x hx =>
    obtain ⟨n1, n2, n3, n4, n5⟩ := col_ne hx
    by_cases h2 : c = 93
    · subst h2
      have : tk [91, 47, x] 93 p = ([item p kGround [x]], []) := by simp [tk, mayB, markB, hx]
      rw [this]
      refine ⟨Held.h0, ?_⟩
      show items p (91 :: 47 :: x :: 93 :: rest) = _
      rw [items_br' (k := kGround) (v := [x]) (n := 3) (by simp [oneB, oneH, oneG, col_47, hx])]
      simp
      congr 1
      omega
    · by_cases h1 : c = 91
      · subst h1
        have : tk [91, 47, x] 91 p = ([own p 91, own (p + 1) 47, own (p + 1 + 1) x], [91]) := by simp [tk, mayB, markB, owns]
        rw [this]
        refine ⟨Held.h1, ?_⟩
        show items p (91 :: 47 :: x :: 91 :: rest) = _
        rw [items_br (by simp [oneB, oneH, oneG, col_47, hx]), items_own (by decide), items_own n1]
        simp
        congr 1
        omega
      · have : tk [91, 47, x] c p = ([own p 91, own (p + 1) 47, own (p + 1 + 1) x, own (p + 1 + 1 + 1) c], []) := by simp [tk, mayB, markB, h1, h2, owns]
        rw [this]
        refine ⟨Held.h0, ?_⟩
        show items p (91 :: 47 :: x :: c :: rest) = _
        rw [items_br (by simp [oneB, oneH, oneG, col_47, hx, h2]), items_own (by decide), items_own n1, items_own h1]
        simp
        congr 1
        omega
theorem items_held {h : List Nat} (H : Held h) (p : Int) : items p h = owns p h := by
  cases H with
  | h0 => rw [items_nil]; rfl
  | h1 => rw [items_br rfl, items_nil]; rfl
  | h2 => rw [items_br rfl, items_own (by decide), items_nil]; rfl
  | h3 x hx =>
    obtain ⟨n1, n2, n3, n4, n5⟩ := col_ne hx
    rw [items_br (by simp [oneB, oneC, n1, n2, hx]), items_own n1, items_nil]; rfl
  | h4 x hx =>
    obtain ⟨n1, n2, n3, n4, n5⟩ := col_ne hx
    rw [items_br (by simp [oneB, oneH, oneG, col_47, hx]), items_own (by decide), items_own n1, items_nil]; rfl
def runT : List Nat → Int → List Nat → List D × List Nat
  | h, _, [] => ([], h)
  | h, p, c :: t => ((tk h c (p - h.length)).1 ++ (runT (tk h c (p - h.length)).2 (p + 1) t).1, (runT (tk h c (p - h.length)).2 (p + 1) t).2)
theorem run_items : ∀ (t : List Nat) {h : List Nat} (_ : Held h) (p : Int) (rest : List Nat), Held (runT h p t).2 ∧ items (p - h.length) (h ++ (t ++ rest)) = (runT h p t).1 ++ items (p + t.length - (runT h p t).2.length) ((runT h p t).2 ++ rest)
  | [], h, H, p, rest => ⟨H, by simp [runT]⟩
  | c :: t, h, H, p, rest => by
    obtain ⟨a, b⟩ := take_items H c (p - h.length) (t ++ rest)
    obtain ⟨a2, b2⟩ := run_items t a (p + 1) rest
    refine ⟨a2, ?_⟩
    show items (p - h.length) (h ++ c :: (t ++ rest)) = _
    rw [b]
    have e : p - (h.length : Int) + h.length + 1 - ((tk h c (p - h.length)).2.length : Int) = p + 1 - ((tk h c (p - h.length)).2.length : Int) := by omega
    rw [e, b2]
    show _ = ((tk h c (p - h.length)).1 ++ (runT (tk h c (p - h.length)).2 (p + 1) t).1) ++ items (p + ((c :: t).length : Nat) - ((runT (tk h c (p - h.length)).2 (p + 1) t).2.length : Int)) ((runT (tk h c (p - h.length)).2 (p + 1) t).2 ++ rest)
    rw [List.append_assoc]
    have e2 : p + 1 + (t.length : Int) = p + ((c :: t).length : Nat) := by simp; omega
    rw [e2]
theorem run_all (t : List Nat) : Held (runT [] 0 t).2 ∧ items 0 t = (runT [] 0 t).1 ++ owns (t.length - (runT [] 0 t).2.length) (runT [] 0 t).2 := by
  obtain ⟨a, b⟩ := run_items t Held.h0 0 []
  refine ⟨a, ?_⟩
  simp at b
  rw [b, items_held a]
end L2
namespace L2
open PySem PySem.Spec PyProof.Rows
@[simp] theorem gList_l {l : List D} : gList [.lst l] = some (.lst l) := rfl
def fzF (f : Fl) : Fl := match f with
  | .rt d O' => .rt d O'
  | _ => .no
@[simp] theorem ms_fz {m : MS} {ρ : DEnv} {O : Store} : msFz m ρ O = fzF (m ρ O) := rfl
@[simp] theorem fzF_rt {d : D} {O : Store} : fzF (.rt d O) = .rt d O := rfl
def ziF (d e : D) (O : Store) : Res (List D) := match d, e with
  | .lst ds, .lst es => .ok (zipD ds es) O
  | _, _ => .no
@[simp] theorem m_zip {ma mb : M D} {ρ : DEnv} {O : Store} : mZip ma mb ρ O = (ma ρ O).bind fun d O1 => (mb ρ O1).bind fun e O2 => ziF d e O2 := by
  unfold mZip
  congr 1
@[simp] theorem ziF_l {ds es : List D} {O : Store} : ziF (.lst ds) (.lst es) O = .ok (zipD ds es) O := rfl
end L2
namespace K24
open PySem L2
seal VE SE OE WE TsE TwE AE VS VSs VG VGs VI VIc VO VIf DPE
def top (i : Nat) : Stmt := PySem.Challenge.pw_outweave_k24_full_parts.main.body.getD i (.Pass ⟨0, 0, 0, 0⟩)
abbrev s_is_sign : Stmt := top 11
theorem sc_is_sign : FnScope ["thing"] ["thing"] (defScope s_is_sign) := ⟨rfl, rfl, rfl, by decide +kernel, rfl, by decide +kernel, by decide +kernel⟩
def b_is_sign : MS :=
    (msRet (mAndV (mIsi "str" (mVar 0)) (mAndV (mBin gEq (mCallB gLen (maCons (mVar 0) maNil)) (mC (.int 1))) (mChain gLe gLe (mC (.str [32])) (mVar 0) (mC (.str [125]))))))
def c_is_sign : List D → Store → Res D := mFun 1 b_is_sign
theorem ok_is_sign {Pr : Program} {w : World} {K : Frag} {mg : Str → Option Value} {base : Heap} (D_is_sign : Def K mg "is_sign" s_is_sign)
    (B : Blt mg)
    (c_FIRST_SIGN : ∃ u, mg "FIRST_SIGN" = some u ∧ RelV (.str (S [32])) u)
    (c_LAST_SIGN : ∃ u, mg "LAST_SIGN" = some u ∧ RelV (.str (S [125])) u) :
    Can Pr w K mg base "is_sign" ["thing"] 1 (vSp K mg [.s] (rV K) c_is_sign) := by
  refine vdef (k := 0) (b := b_is_sign) D_is_sign sc_is_sign (fun _ _ _ _ _ _ => bndS fun _ => bnd0 rfl) [.s] [] rV_ok (fun _ _ _ _ => Rp.non) (body := fun f cdv A outer s H E hr P => ?_)
  refine vss_one ?_
  refine vs_retV ?_
  refine ve_and ?_ ?_
  refine ve_oe (oe_isi "str" (hb := bt_str) B.isinstance_ B.str_ (se_var 0))
  refine ve_and ?_ ?_
  refine ve_oe ?_
  refine oe_cmp (od_eq hr) ?_ (se_ve ve_int) (nomark _)
  refine se_oe ?_
  refine oe_callB (ms := [.s]) (hv := bb_len) cd_len B.len_ ?_
  refine ae_s (se_var 0) ae_nil
  refine ve_one ?_
  refine ve_oe ?_
  refine oe_chain od_le od_le ?_ (se_var 0) ?_
  refine se_ve ?_
  refine ve_const c_FIRST_SIGN (fun _ _ _ => Rp.str)
  refine se_ve ?_
  refine ve_const c_LAST_SIGN (fun _ _ _ => Rp.str)
abbrev s_is_colour : Stmt := top 12
theorem sc_is_colour : FnScope ["thing"] ["thing"] (defScope s_is_colour) := ⟨rfl, rfl, rfl, by decide +kernel, rfl, by decide +kernel, by decide +kernel⟩
def b_is_colour : MS :=
    (msRet (mAndV (mIsi "str" (mVar 0)) (mAndV (mBin gEq (mCallB gLen (maCons (mVar 0) maNil)) (mC (.int 1))) (mBin (gIn false) (mVar 0) (mC (.str [97, 98, 99, 100, 101, 102, 103, 104, 46]))))))
def c_is_colour : List D → Store → Res D := mFun 1 b_is_colour
theorem ok_is_colour {Pr : Program} {w : World} {K : Frag} {mg : Str → Option Value} {base : Heap} (D_is_colour : Def K mg "is_colour" s_is_colour)
    (B : Blt mg)
    (c_COLOURS : ∃ u, mg "COLOURS" = some u ∧ RelV (.str (S [97, 98, 99, 100, 101, 102, 103, 104, 46])) u) :
    Can Pr w K mg base "is_colour" ["thing"] 1 (vSp K mg [.s] (rV K) c_is_colour) := by
  refine vdef (k := 0) (b := b_is_colour) D_is_colour sc_is_colour (fun _ _ _ _ _ _ => bndS fun _ => bnd0 rfl) [.s] [] rV_ok (fun _ _ _ _ => Rp.non) (body := fun f cdv A outer s H E hr P => ?_)
  refine vss_one ?_
  refine vs_retV ?_
  refine ve_and ?_ ?_
  refine ve_oe (oe_isi "str" (hb := bt_str) B.isinstance_ B.str_ (se_var 0))
  refine ve_and ?_ ?_
  refine ve_oe ?_
  refine oe_cmp (od_eq hr) ?_ (se_ve ve_int) (nomark _)
  refine se_oe ?_
  refine oe_callB (ms := [.s]) (hv := bb_len) cd_len B.len_ ?_
  refine ae_s (se_var 0) ae_nil
  refine ve_one ?_
  refine ve_oe ?_
  refine oe_cmp od_in (se_var 0) ?_ (by with_unfolding_all rfl)
  refine se_ve ?_
  refine ve_const c_COLOURS (fun _ _ _ => Rp.str)
abbrev s_checked : Stmt := top 13
theorem sc_checked : FnScope ["text", "place", "sign"] ["text"] (defScope s_checked) := ⟨rfl, rfl, rfl, by decide +kernel, rfl, by decide +kernel, by decide +kernel⟩
def b_checked : MS :=
    (msSeq (msIf (mtNot (mTru (mIsi "str" (mVar 0)))) msNo msNil)
    (msFor (mEnum (mVar 0)) (mgN' 2 (mgsCons (mgN 1) (mgsCons (mgN 2) mgsNil))) (msIf (mtNot (mtOr (mTru (mCall c_is_sign (maCons (mVar 2) maNil))) (mtOr (mTest (mBin gEq (mVar 2) (mC (.str [10])))) (mTest (mBin gEq (mVar 2) (mC (.str [9]))))))) msNo msNil)))
def c_checked : List D → Store → Res D := mFun 3 b_checked
theorem ok_checked {Pr : Program} {w : World} {K : Frag} {mg : Str → Option Value} {base : Heap} (D_checked : Def K mg "checked" s_checked)
    (B : Blt mg)
    (c_ANEW_SIGN : ∃ u, mg "ANEW_SIGN" = some u ∧ RelV (.str (S [9])) u)
    (c_ROW_END : ∃ u, mg "ROW_END" = some u ∧ RelV (.str (S [10])) u)
    (C_is_sign : Can Pr w K mg base "is_sign" ["thing"] 1 (vSp K mg [.s] (rV K) c_is_sign)) :
    Can Pr w K mg base "checked" ["text"] 2 (vSp K mg [.s] (rV K) c_checked) := by
  refine vdef (k := 1) (b := b_checked) D_checked sc_checked (fun _ _ _ _ _ _ => bndS fun _ => bnd0 rfl) [.s] [.v, .v] rV_ok (fun _ _ _ _ => Rp.non) (body := fun f cdv A outer s H E hr P => ?_)
  refine vss_cons ?_ ?_
  refine vs_if ?_ (vss_one vs_never) vss_nil
  refine ts_not ?_
  refine ts_val ?_
  refine se_oe (oe_isi "str" (hb := bt_str) B.isinstance_ B.str_ (se_var 0))
  refine vss_one ?_
  refine vs_for rfl (vi_enum B.enumerate_ (we_var 0)) ?_ ?_
  refine vg_tup 2 rfl ?_
  refine vgs_cons (vg_name (i := 1) sc_checked.nd rfl (by first | exact Or.inl rfl | exact Or.inr rfl)) ?_
  refine vgs_cons (vg_name (i := 2) sc_checked.nd rfl (by first | exact Or.inl rfl | exact Or.inr rfl)) vgs_nil
  refine vss_one ?_
  refine vs_if ?_ (vss_one vs_never) vss_nil
  refine ts_not ?_
  refine ts_w ?_
  refine tw_or ?_ ?_
  refine ts_val ?_
  refine se_ve ?_
  refine ve_call C_is_sign (hr.mono (by decide)) ?_
  refine ae_s (se_ve (ve_var 2)) ae_nil
  refine tw_or ?_ ?_
  refine ts_cmp (od_eq hr) (se_ve (ve_var 2)) ?_ (nomark _)
  refine se_ve ?_
  refine ve_const c_ROW_END (fun _ _ _ => Rp.str)
  refine tw_or1 ?_
  refine ts_cmp (od_eq hr) (se_ve (ve_var 2)) ?_ (nomark _)
  refine se_ve ?_
  refine ve_const c_ANEW_SIGN (fun _ _ _ => Rp.str)
abbrev s_mark_of : Stmt := top 15
theorem sc_mark_of : FnScope ["text"] ["text"] (defScope s_mark_of) := ⟨rfl, rfl, rfl, by decide +kernel, rfl, by decide +kernel, by decide +kernel⟩
def b_mark_of : MS :=
    (msSeq (msIf (mTest (mBin gEq (mVar 0) (mC (.str [91, 93])))) (msRet (mTup (maCons (mC (.str [112, 108, 97, 105, 110])) (maCons (mC (.str [])) maNil)))) msNil)
    (msSeq (msIf (mTest (mBin gEq (mVar 0) (mC (.str [91, 91])))) (msRet (mTup (maCons (mC (.str [115, 105, 103, 110])) (maCons (mC (.str [91])) maNil)))) msNil)
    (msSeq (msIf (mtAnd (mTest (mBin gEq (mCallB gLen (maCons (mVar 0) maNil)) (mC (.int 3)))) (mtAnd (mTest (mBin gEq (mBin gIx (mVar 0) (mC (.int 0))) (mC (.str [91])))) (mtAnd (mTru (mCall c_is_colour (maCons (mBin gIx (mVar 0) (mC (.int 1))) maNil))) (mTest (mBin gEq (mBin gIx (mVar 0) (mC (.int 2))) (mC (.str [93]))))))) (msRet (mTup (maCons (mC (.str [105, 110, 107])) (maCons (mBin gIx (mVar 0) (mC (.int 1))) maNil)))) msNil)
    (msSeq (msIf (mtAnd (mTest (mBin gEq (mCallB gLen (maCons (mVar 0) maNil)) (mC (.int 4)))) (mtAnd (mTru (mStarts (mG (mVar 0)) (mC (.str [91, 47])))) (mtAnd (mTru (mCall c_is_colour (maCons (mBin gIx (mVar 0) (mC (.int 2))) maNil))) (mTest (mBin gEq (mBin gIx (mVar 0) (mC (.int 3))) (mC (.str [93]))))))) (msRet (mTup (maCons (mC (.str [103, 114, 111, 117, 110, 100])) (maCons (mBin gIx (mVar 0) (mC (.int 2))) maNil)))) msNil)
    (msRet (mC .non))))))
def c_mark_of : List D → Store → Res D := mFun 1 b_mark_of
theorem ok_mark_of {Pr : Program} {w : World} {K : Frag} {mg : Str → Option Value} {base : Heap} (D_mark_of : Def K mg "mark_of" s_mark_of)
    (B : Blt mg)
    (C_is_colour : Can Pr w K mg base "is_colour" ["thing"] 1 (vSp K mg [.s] (rV K) c_is_colour)) :
    Can Pr w K mg base "mark_of" ["text"] 2 (vSp K mg [.s] (rV K) c_mark_of) := by
  refine vdef (k := 1) (b := b_mark_of) D_mark_of sc_mark_of (fun _ _ _ _ _ _ => bndS fun _ => bnd0 rfl) [.s] [] rV_ok (fun _ _ _ _ => Rp.non) (body := fun f cdv A outer s H E hr P => ?_)
  refine vss_cons ?_ ?_
  refine vs_if ?_ ?_ vss_nil
  refine ts_cmp (od_eq hr) (se_var 0) (se_ve (ve_str [91, 93])) (nomark _)
  refine vss_one ?_
  refine vs_retV ?_
  refine ve_tup 2 ?_
  refine ae_v (ve_str [112, 108, 97, 105, 110]) ?_
  refine ae_v (ve_str []) ae_nil
  refine vss_cons ?_ ?_
  refine vs_if ?_ ?_ vss_nil
  refine ts_cmp (od_eq hr) (se_var 0) (se_ve (ve_str [91, 91])) (nomark _)
  refine vss_one ?_
  refine vs_retV ?_
  refine ve_tup 2 ?_
  refine ae_v (ve_str [115, 105, 103, 110]) ?_
  refine ae_v (ve_str [91]) ae_nil
  refine vss_cons ?_ ?_
  refine vs_if ?_ ?_ vss_nil
  refine ts_w ?_
  refine tw_and ?_ ?_
  refine ts_cmp (od_eq hr) ?_ (se_ve ve_int) (nomark _)
  refine se_oe ?_
  refine oe_callB (ms := [.s]) (hv := bb_len) cd_len B.len_ ?_
  refine ae_s (se_var 0) ae_nil
  refine tw_and ?_ ?_
  refine ts_cmp (od_eq hr) ?_ (se_ve (ve_str [91])) (nomark _)
  refine se_ve ?_
  refine ve_ix (se_var 0) (se_ve ve_int)
  refine tw_and ?_ ?_
  refine ts_val ?_
  refine se_ve ?_
  refine ve_call C_is_colour (hr.mono (by decide)) ?_
  refine ae_s ?_ ae_nil
  refine se_ve ?_
  refine ve_ix (se_var 0) (se_ve ve_int)
  refine tw_and1 ?_
  refine ts_cmp (od_eq hr) ?_ (se_ve (ve_str [93])) (nomark _)
  refine se_ve ?_
  refine ve_ix (se_var 0) (se_ve ve_int)
  refine vss_one ?_
  refine vs_retV ?_
  refine ve_tup 2 ?_
  refine ae_v (ve_str [105, 110, 107]) ?_
  refine ae_v ?_ ae_nil
  refine ve_ix (se_var 0) (se_ve ve_int)
  refine vss_cons ?_ ?_
  refine vs_if ?_ ?_ vss_nil
  refine ts_w ?_
  refine tw_and ?_ ?_
  refine ts_cmp (od_eq hr) ?_ (se_ve ve_int) (nomark _)
  refine se_oe ?_
  refine oe_callB (ms := [.s]) (hv := bb_len) cd_len B.len_ ?_
  refine ae_s (se_var 0) ae_nil
  refine tw_and ?_ ?_
  refine ts_val ?_
  refine se_oe ?_
  refine oe_starts (ve_se (se_var 0)) (ve_str [91, 47])
  refine tw_and ?_ ?_
  refine ts_val ?_
  refine se_ve ?_
  refine ve_call C_is_colour (hr.mono (by decide)) ?_
  refine ae_s ?_ ae_nil
  refine se_ve ?_
  refine ve_ix (se_var 0) (se_ve ve_int)
  refine tw_and1 ?_
  refine ts_cmp (od_eq hr) ?_ (se_ve (ve_str [93])) (nomark _)
  refine se_ve ?_
  refine ve_ix (se_var 0) (se_ve ve_int)
  refine vss_one ?_
  refine vs_retV ?_
  refine ve_tup 2 ?_
  refine ae_v (ve_str [103, 114, 111, 117, 110, 100]) ?_
  refine ae_v ?_ ae_nil
  refine ve_ix (se_var 0) (se_ve ve_int)
  refine vss_one (vs_retV ve_non)
abbrev s_may_become_mark : Stmt := top 16
theorem sc_may_become_mark : FnScope ["text"] ["text"] (defScope s_may_become_mark) := ⟨rfl, rfl, rfl, by decide +kernel, rfl, by decide +kernel, by decide +kernel⟩
def b_may_become_mark : MS :=
    (msSeq (msIf (mtOr (mTest (mBin gEq (mVar 0) (mC (.str [91])))) (mTest (mBin gEq (mVar 0) (mC (.str [91, 47]))))) (msRet (mC (.bl true))) msNil)
    (msSeq (msIf (mTest (mBin gEq (mCallB gLen (maCons (mVar 0) maNil)) (mC (.int 2)))) (msRet (mAndV (mBin gEq (mBin gIx (mVar 0) (mC (.int 0))) (mC (.str [91]))) (mCall c_is_colour (maCons (mBin gIx (mVar 0) (mC (.int 1))) maNil)))) msNil)
    (msRet (mAndV (mBin gEq (mCallB gLen (maCons (mVar 0) maNil)) (mC (.int 3))) (mAndV (mStarts (mG (mVar 0)) (mC (.str [91, 47]))) (mCall c_is_colour (maCons (mBin gIx (mVar 0) (mC (.int 2))) maNil)))))))
def c_may_become_mark : List D → Store → Res D := mFun 1 b_may_become_mark
theorem ok_may_become_mark {Pr : Program} {w : World} {K : Frag} {mg : Str → Option Value} {base : Heap} (D_may_become_mark : Def K mg "may_become_mark" s_may_become_mark)
    (B : Blt mg)
    (C_is_colour : Can Pr w K mg base "is_colour" ["thing"] 1 (vSp K mg [.s] (rV K) c_is_colour)) :
    Can Pr w K mg base "may_become_mark" ["text"] 2 (vSp K mg [.s] (rV K) c_may_become_mark) := by
  refine vdef (k := 1) (b := b_may_become_mark) D_may_become_mark sc_may_become_mark (fun _ _ _ _ _ _ => bndS fun _ => bnd0 rfl) [.s] [] rV_ok (fun _ _ _ _ => Rp.non) (body := fun f cdv A outer s H E hr P => ?_)
  refine vss_cons ?_ ?_
  refine vs_if ?_ ?_ vss_nil
  refine ts_w ?_
  refine tw_or ?_ ?_
  refine ts_cmp (od_eq hr) (se_var 0) (se_ve (ve_str [91])) (nomark _)
  refine tw_or1 ?_
  refine ts_cmp (od_eq hr) (se_var 0) (se_ve (ve_str [91, 47])) (nomark _)
  refine vss_one (vs_retV ve_bl)
  refine vss_cons ?_ ?_
  refine vs_if ?_ ?_ vss_nil
  refine ts_cmp (od_eq hr) ?_ (se_ve ve_int) (nomark _)
  refine se_oe ?_
  refine oe_callB (ms := [.s]) (hv := bb_len) cd_len B.len_ ?_
  refine ae_s (se_var 0) ae_nil
  refine vss_one ?_
  refine vs_retV ?_
  refine ve_and ?_ ?_
  refine ve_oe ?_
  refine oe_cmp (od_eq hr) ?_ (se_ve (ve_str [91])) (nomark _)
  refine se_ve ?_
  refine ve_ix (se_var 0) (se_ve ve_int)
  refine ve_one ?_
  refine ve_call C_is_colour (hr.mono (by decide)) ?_
  refine ae_s ?_ ae_nil
  refine se_ve ?_
  refine ve_ix (se_var 0) (se_ve ve_int)
  refine vss_one ?_
  refine vs_retV ?_
  refine ve_and ?_ ?_
  refine ve_oe ?_
  refine oe_cmp (od_eq hr) ?_ (se_ve ve_int) (nomark _)
  refine se_oe ?_
  refine oe_callB (ms := [.s]) (hv := bb_len) cd_len B.len_ ?_
  refine ae_s (se_var 0) ae_nil
  refine ve_and ?_ ?_
  refine ve_oe ?_
  refine oe_starts (ve_se (se_var 0)) (ve_str [91, 47])
  refine ve_one ?_
  refine ve_call C_is_colour (hr.mono (by decide)) ?_
  refine ae_s ?_ ae_nil
  refine se_ve ?_
  refine ve_ix (se_var 0) (se_ve ve_int)
abbrev s_own_item : Stmt := top 17
theorem sc_own_item : FnScope ["place", "sign"] ["place", "sign"] (defScope s_own_item) := ⟨rfl, rfl, rfl, by decide +kernel, rfl, by decide +kernel, by decide +kernel⟩
def b_own_item : MS :=
    (msSeq (msIf (mTest (mBin gEq (mVar 1) (mC (.str [10])))) (msRet (mTup (maCons (mG (mVar 0)) (maCons (mC (.str [101, 110, 100])) (maCons (mC (.str [])) maNil))))) msNil)
    (msSeq (msIf (mTest (mBin gEq (mVar 1) (mC (.str [9])))) (msRet (mTup (maCons (mG (mVar 0)) (maCons (mC (.str [97, 110, 101, 119])) (maCons (mC (.str [])) maNil))))) msNil)
    (msRet (mTup (maCons (mG (mVar 0)) (maCons (mC (.str [115, 105, 103, 110])) (maCons (mG (mVar 1)) maNil)))))))
def c_own_item : List D → Store → Res D := mFun 2 b_own_item
theorem ok_own_item {Pr : Program} {w : World} {K : Frag} {mg : Str → Option Value} {base : Heap} (D_own_item : Def K mg "own_item" s_own_item)
    (B : Blt mg)
    (c_ANEW_SIGN : ∃ u, mg "ANEW_SIGN" = some u ∧ RelV (.str (S [9])) u)
    (c_ROW_END : ∃ u, mg "ROW_END" = some u ∧ RelV (.str (S [10])) u) :
    Can Pr w K mg base "own_item" ["place", "sign"] 1 (vSp K mg [.s, .s] (rV K) c_own_item) := by
  refine vdef (k := 0) (b := b_own_item) D_own_item sc_own_item (fun _ _ _ _ _ _ => bndS fun _ => bndS fun _ => bnd0 rfl) [.s, .s] [] rV_ok (fun _ _ _ _ => Rp.non) (body := fun f cdv A outer s H E hr P => ?_)
  refine vss_cons ?_ ?_
  refine vs_if ?_ ?_ vss_nil
  refine ts_cmp (od_eq hr) (se_var 1) ?_ (nomark _)
  refine se_ve ?_
  refine ve_const c_ROW_END (fun _ _ _ => Rp.str)
  refine vss_one ?_
  refine vs_retV ?_
  refine ve_tup 3 ?_
  refine ae_v (ve_se (se_var 0)) ?_
  refine ae_v (ve_str [101, 110, 100]) ?_
  refine ae_v (ve_str []) ae_nil
  refine vss_cons ?_ ?_
  refine vs_if ?_ ?_ vss_nil
  refine ts_cmp (od_eq hr) (se_var 1) ?_ (nomark _)
  refine se_ve ?_
  refine ve_const c_ANEW_SIGN (fun _ _ _ => Rp.str)
  refine vss_one ?_
  refine vs_retV ?_
  refine ve_tup 3 ?_
  refine ae_v (ve_se (se_var 0)) ?_
  refine ae_v (ve_str [97, 110, 101, 119]) ?_
  refine ae_v (ve_str []) ae_nil
  refine vss_one ?_
  refine vs_retV ?_
  refine ve_tup 3 ?_
  refine ae_v (ve_se (se_var 0)) ?_
  refine ae_v (ve_str [115, 105, 103, 110]) ?_
  refine ae_v (ve_se (se_var 1)) ae_nil
abbrev s_own_items : Stmt := top 18
theorem sc_own_items : FnScope ["place", "signs"] ["place", "signs"] (defScope s_own_items) := ⟨rfl, rfl, rfl, by decide +kernel, rfl, by decide +kernel, by decide +kernel⟩
def b_own_items : MS :=
    (msRet (mComp (mEnum (mVar 1)) 2 [0] (mgN' 2 (mgsCons (mgN 0) (mgsCons (mgN 1) mgsNil))) mYes (mCall c_own_item (maCons (mBin gAdd (mVar 2) (mVar 0)) (maCons (mVar 1) maNil)))))
def c_own_items : List D → Store → Res D := mFun 2 b_own_items
theorem ok_own_items {Pr : Program} {w : World} {K : Frag} {mg : Str → Option Value} {base : Heap} (D_own_items : Def K mg "own_items" s_own_items)
    (B : Blt mg)
    (C_own_item : Can Pr w K mg base "own_item" ["place", "sign"] 1 (vSp K mg [.s, .s] (rV K) c_own_item)) :
    Can Pr w K mg base "own_items" ["place", "signs"] 2 (vSp K mg [.s, .s] (rO K) c_own_items) := by
  refine vdef (k := 1) (b := b_own_items) D_own_items sc_own_items (fun _ _ _ _ _ _ => bndS fun _ => bndS fun _ => bnd0 rfl) [.s, .s] [] rO_ok (fun _ _ _ _ => .inl ⟨rfl, Rp.non⟩) (body := fun f cdv A outer s H E hr P => ?_)
  refine vss_one ?_
  refine vs_retO ?_
  refine oe_comp (defScope s_own_items) ["place", "signs"] ["k", "sign"] [0] rfl ?_ (fun _ _ _ _ P => ?_) (fun _ _ _ _ P => ?_) (fun _ _ _ _ P => ?_)
  refine vic_vi (vi_enum B.enumerate_ (we_var 1))
  refine vg_tup 2 rfl ?_
  refine vgs_cons (vg_name (i := 0) (show (compN ["place", "signs"] ["k", "sign"] [0]).Nodup by decide +kernel) rfl (by first | exact Or.inl rfl | exact Or.inr rfl)) ?_
  refine vgs_cons (vg_name (i := 1) (show (compN ["place", "signs"] ["k", "sign"] [0]).Nodup by decide +kernel) rfl (by first | exact Or.inl rfl | exact Or.inr rfl)) vgs_nil
  exact vif_nil
  refine ve_call C_own_item (hr.mono (by decide)) ?_
  refine ae_s ?_ ?_
  refine se_oe ?_
  refine oe_bin od_add (se_var 2) (se_ve (ve_var 0))
  refine ae_s (se_ve (ve_var 1)) ae_nil
abbrev s_Reader___init__ : Stmt := inClass (top 19) 0
theorem sc_Reader___init__ : FnScope ["self"] ["self"] (defScope s_Reader___init__) := ⟨rfl, rfl, rfl, by decide +kernel, rfl, by decide +kernel, by decide +kernel⟩
def b_Reader___init__ : MS :=
    (msSeq (msFld ["Reader"] "held" (mVar 0) (mC (.str [])))
    (msFld ["Reader"] "place" (mVar 0) (mC (.int 0))))
def c_Reader___init__ : List D → Store → Res D := mFun 1 b_Reader___init__
theorem ok_Reader___init__ {Pr : Program} {w : World} {K : Frag} {mg : Str → Option Value} {base : Heap} (D_Reader___init__ : DefC K mg "Reader" "Reader.__init__" s_Reader___init__)
    (B : Blt mg)
    (K_Reader_held : KC K mg "Reader" "held")
    (K_Reader_place : KC K mg "Reader" "place") :
    CanC Pr w K mg base "Reader" ["self"] 1 (vSp K mg [.v] (rV K) c_Reader___init__) := by
  refine vdefC (k := 0) (b := b_Reader___init__) D_Reader___init__ sc_Reader___init__ (fun _ _ _ _ _ _ => bndS fun _ => bnd0 rfl) [.v] [] rV_ok (fun _ _ _ _ => Rp.non) (body := fun f cdv A outer s H E hr P => ?_)
  refine vss_cons ?_ ?_
  refine vs_fld (kc_cons K_Reader_held kc_nil) (ve_var 0) (ve_str [])
  refine vss_one ?_
  refine vs_fld (kc_cons K_Reader_place kc_nil) (ve_var 0) ve_int
abbrev s_Reader_take : Stmt := inClass (top 19) 4
theorem sc_Reader_take : FnScope ["self", "sign", "seen", "first", "mark", "told"] ["self", "sign"] (defScope s_Reader_take) := ⟨rfl, rfl, rfl, by decide +kernel, rfl, by decide +kernel, by decide +kernel⟩
def b_Reader_take : MS :=
    (msSeq (msSet 2 (mBin gAdd (mFld ["Reader"] "held" (mVar 0)) (mVar 1)))
    (msSeq (msSet 3 (mBin gMinus (mFld ["Reader"] "place" (mVar 0)) (mCallB gLen (maCons (mFld ["Reader"] "held" (mVar 0)) maNil))))
    (msSeq (msFld ["Reader"] "place" (mVar 0) (mBin gAdd (mFld ["Reader"] "place" (mVar 0)) (mC (.int 1))))
    (msSeq (msIf (mTru (mCall c_may_become_mark (maCons (mVar 2) maNil))) (msSeq (msFld ["Reader"] "held" (mVar 0) (mVar 2))
    (msRet (mLst maNil))) msNil)
    (msSeq (msSet 4 (mCall c_mark_of (maCons (mVar 2) maNil)))
    (msSeq (msIf (mTest (mNotN (mVar 4))) (msSeq (msFld ["Reader"] "held" (mVar 0) (mC (.str [])))
    (msRet (mLst (maCons (mTup (maCons (mVar 3) (maCons (mBin gIx (mVar 4) (mC (.int 0))) (maCons (mBin gIx (mVar 4) (mC (.int 1))) maNil)))) maNil)))) msNil)
    (msSeq (msIf (mTest (mBin gEq (mVar 1) (mC (.str [91])))) (msSeq (msSet 5 (mCall c_own_items (maCons (mVar 3) (maCons (mFld ["Reader"] "held" (mVar 0)) maNil))))
    (msSeq (msFld ["Reader"] "held" (mVar 0) (mG (mVar 1)))
    (msRet (mVar 5)))) msNil)
    (msSeq (msFld ["Reader"] "held" (mVar 0) (mC (.str [])))
    (msRet (mCall c_own_items (maCons (mVar 3) (maCons (mVar 2) maNil))))))))))))
def c_Reader_take : List D → Store → Res D := mFun 6 b_Reader_take
theorem ok_Reader_take {Pr : Program} {w : World} {K : Frag} {mg : Str → Option Value} {base : Heap} (D_Reader_take : DefM K mg "Reader" "take" "Reader.take" s_Reader_take)
    (B : Blt mg)
    (K_Reader_place : KC K mg "Reader" "place")
    (K_Reader_held : KC K mg "Reader" "held")
    (C_may_become_mark : Can Pr w K mg base "may_become_mark" ["text"] 2 (vSp K mg [.s] (rV K) c_may_become_mark))
    (C_mark_of : Can Pr w K mg base "mark_of" ["text"] 2 (vSp K mg [.s] (rV K) c_mark_of))
    (C_own_items : Can Pr w K mg base "own_items" ["place", "signs"] 2 (vSp K mg [.s, .s] (rO K) c_own_items)) :
    CanM Pr w K mg base "Reader" "take" ["self", "sign"] 3 (vSp K mg [.v, .s] (rO K) c_Reader_take) := by
  refine vdefM (k := 2) (b := b_Reader_take) D_Reader_take sc_Reader_take (fun _ _ _ _ _ _ => bndS fun _ => bndS fun _ => bnd0 rfl) [.v, .s] [.v, .v, .v, .o] rO_ok (fun _ _ _ _ => .inl ⟨rfl, Rp.non⟩) (body := fun f cdv A outer s H E hr P => ?_)
  refine vss_cons ?_ ?_
  refine vs_setV (i := 2) sc_Reader_take.nd rfl (by first | exact Or.inl rfl | exact Or.inr rfl) ?_
  refine ve_oe ?_
  refine oe_bin od_add ?_ (se_var 1)
  refine se_ve (ve_fld (kc_cons K_Reader_held kc_nil) (ve_var 0))
  refine vss_cons ?_ ?_
  refine vs_setV (i := 3) sc_Reader_take.nd rfl (by first | exact Or.inl rfl | exact Or.inr rfl) ?_
  refine ve_oe ?_
  refine oe_bin od_sub ?_ ?_
  refine se_ve (ve_fld (kc_cons K_Reader_place kc_nil) (ve_var 0))
  refine se_oe ?_
  refine oe_callB (ms := [.s]) (hv := bb_len) cd_len B.len_ ?_
  refine ae_s ?_ ae_nil
  refine se_ve (ve_fld (kc_cons K_Reader_held kc_nil) (ve_var 0))
  refine vss_cons ?_ ?_
  refine vs_fld (kc_cons K_Reader_place kc_nil) (ve_var 0) ?_
  refine ve_oe ?_
  refine oe_bin od_add ?_ (se_ve ve_int)
  refine se_ve (ve_fld (kc_cons K_Reader_place kc_nil) (ve_var 0))
  refine vss_cons ?_ ?_
  refine vs_if ?_ ?_ vss_nil
  refine ts_val ?_
  refine se_ve ?_
  refine ve_call C_may_become_mark (hr.mono (by decide)) ?_
  refine ae_s (se_ve (ve_var 2)) ae_nil
  refine vss_cons ?_ ?_
  refine vs_fld (kc_cons K_Reader_held kc_nil) (ve_var 0) (ve_var 2)
  refine vss_one ?_
  refine vs_retO (oe_lst 0 ae_nil)
  refine vss_cons ?_ ?_
  refine vs_setV (i := 4) sc_Reader_take.nd rfl (by first | exact Or.inl rfl | exact Or.inr rfl) ?_
  refine ve_call C_mark_of (hr.mono (by decide)) ?_
  refine ae_s (se_ve (ve_var 2)) ae_nil
  refine vss_cons ?_ ?_
  refine vs_if ?_ ?_ vss_nil
  refine ts_notN (se_ve (ve_var 4))
  refine vss_cons ?_ ?_
  refine vs_fld (kc_cons K_Reader_held kc_nil) (ve_var 0) (ve_str [])
  refine vss_one ?_
  refine vs_retO ?_
  refine oe_lst 1 ?_
  refine ae_v ?_ ae_nil
  refine ve_tup 3 ?_
  refine ae_v (ve_var 3) ?_
  refine ae_v ?_ ?_
  refine ve_ix (se_ve (ve_var 4)) (se_ve ve_int)
  refine ae_v ?_ ae_nil
  refine ve_ix (se_ve (ve_var 4)) (se_ve ve_int)
  refine vss_cons ?_ ?_
  refine vs_if ?_ ?_ vss_nil
  refine ts_cmp (od_eq hr) (se_var 1) (se_ve (ve_str [91])) (nomark _)
  refine vss_cons ?_ ?_
  refine vs_setO (i := 5) sc_Reader_take.nd rfl (by first | exact Or.inl rfl | exact Or.inr rfl) ?_
  refine oe_call C_own_items (hr.mono (by decide)) ?_
  refine ae_s (se_ve (ve_var 3)) ?_
  refine ae_s ?_ ae_nil
  refine se_ve (ve_fld (kc_cons K_Reader_held kc_nil) (ve_var 0))
  refine vss_cons ?_ (vss_one (vs_retX 5))
  refine vs_fld (kc_cons K_Reader_held kc_nil) (ve_var 0) (ve_se (se_var 1))
  refine vss_cons ?_ ?_
  refine vs_fld (kc_cons K_Reader_held kc_nil) (ve_var 0) (ve_str [])
  refine vss_one ?_
  refine vs_retO ?_
  refine oe_call C_own_items (hr.mono (by decide)) ?_
  refine ae_s (se_ve (ve_var 3)) ?_
  refine ae_s (se_ve (ve_var 2)) ae_nil
abbrev s_Reader_feed : Stmt := inClass (top 19) 1
theorem sc_Reader_feed : FnScope ["self", "piece", "told", "sign"] ["self", "piece"] (defScope s_Reader_feed) := ⟨rfl, rfl, rfl, by decide +kernel, rfl, by decide +kernel, by decide +kernel⟩
def b_Reader_feed : MS :=
    (msSeq (msDrop (mCall c_checked (maCons (mVar 1) maNil)))
    (msSeq (msSet 2 (mLst maNil))
    (msSeq (msFor (mIter (mVar 1)) (mgN 3) (msExt 2 (mMeth "Reader" "take" c_Reader_take (mVar 0) (maCons (mVar 3) maNil))))
    (msRet (mVar 2)))))
def c_Reader_feed : List D → Store → Res D := mFun 4 b_Reader_feed
theorem ok_Reader_feed {Pr : Program} {w : World} {K : Frag} {mg : Str → Option Value} {base : Heap} (D_Reader_feed : DefM K mg "Reader" "feed" "Reader.feed" s_Reader_feed)
    (B : Blt mg)
    (C_checked : Can Pr w K mg base "checked" ["text"] 2 (vSp K mg [.s] (rV K) c_checked))
    (C_Reader_take : CanM Pr w K mg base "Reader" "take" ["self", "sign"] 3 (vSp K mg [.v, .s] (rO K) c_Reader_take)) :
    CanM Pr w K mg base "Reader" "feed" ["self", "piece"] 4 (vSp K mg [.v, .s] (rO K) c_Reader_feed) := by
  refine vdefM (k := 3) (b := b_Reader_feed) D_Reader_feed sc_Reader_feed (fun _ _ _ _ _ _ => bndS fun _ => bndS fun _ => bnd0 rfl) [.v, .s] [.o, .v] rO_ok (fun _ _ _ _ => .inl ⟨rfl, Rp.non⟩) (body := fun f cdv A outer s H E hr P => ?_)
  refine vss_cons ?_ ?_
  refine vs_expr ?_
  refine se_ve ?_
  refine ve_call C_checked (hr.mono (by decide)) ?_
  refine ae_s (se_var 1) ae_nil
  refine vss_cons ?_ ?_
  refine vs_setO (i := 2) sc_Reader_feed.nd rfl (by first | exact Or.inl rfl | exact Or.inr rfl) (oe_lst 0 ae_nil)
  refine vss_cons ?_ (vss_one (vs_retX 2))
  refine vs_for rfl (vi_any (we_var 1)) (vg_name (i := 3) sc_Reader_feed.nd rfl (by first | exact Or.inl rfl | exact Or.inr rfl)) ?_
  refine vss_one ?_
  refine vs_extend 2 ?_
  refine se_oe ?_
  refine oe_meth C_Reader_take (hr.mono (by decide)) (ve_var 0) ?_
  refine ae_s (se_ve (ve_var 3)) ae_nil
abbrev s_Reader_finish : Stmt := inClass (top 19) 3
theorem sc_Reader_finish : FnScope ["self", "told"] ["self"] (defScope s_Reader_finish) := ⟨rfl, rfl, rfl, by decide +kernel, rfl, by decide +kernel, by decide +kernel⟩
def b_Reader_finish : MS :=
    (msSeq (msSet 1 (mCall c_own_items (maCons (mBin gMinus (mFld ["Reader"] "place" (mVar 0)) (mCallB gLen (maCons (mFld ["Reader"] "held" (mVar 0)) maNil))) (maCons (mFld ["Reader"] "held" (mVar 0)) maNil))))
    (msSeq (msFld ["Reader"] "held" (mVar 0) (mC (.str [])))
    (msRet (mVar 1))))
def c_Reader_finish : List D → Store → Res D := mFun 2 b_Reader_finish
theorem ok_Reader_finish {Pr : Program} {w : World} {K : Frag} {mg : Str → Option Value} {base : Heap} (D_Reader_finish : DefM K mg "Reader" "finish" "Reader.finish" s_Reader_finish)
    (B : Blt mg)
    (K_Reader_held : KC K mg "Reader" "held")
    (K_Reader_place : KC K mg "Reader" "place")
    (C_own_items : Can Pr w K mg base "own_items" ["place", "signs"] 2 (vSp K mg [.s, .s] (rO K) c_own_items)) :
    CanM Pr w K mg base "Reader" "finish" ["self"] 3 (vSp K mg [.v] (rV K) c_Reader_finish) := by
  refine vdefM (k := 2) (b := b_Reader_finish) D_Reader_finish sc_Reader_finish (fun _ _ _ _ _ _ => bndS fun _ => bnd0 rfl) [.v] [.v] rV_ok (fun _ _ _ _ => Rp.non) (body := fun f cdv A outer s H E hr P => ?_)
  refine vss_cons ?_ ?_
  refine vs_setV (i := 1) sc_Reader_finish.nd rfl (by first | exact Or.inl rfl | exact Or.inr rfl) ?_
  refine ve_oe ?_
  refine oe_call C_own_items (hr.mono (by decide)) ?_
  refine ae_s ?_ ?_
  refine se_oe ?_
  refine oe_bin od_sub ?_ ?_
  refine se_ve (ve_fld (kc_cons K_Reader_place kc_nil) (ve_var 0))
  refine se_oe ?_
  refine oe_callB (ms := [.s]) (hv := bb_len) cd_len B.len_ ?_
  refine ae_s ?_ ae_nil
  refine se_ve (ve_fld (kc_cons K_Reader_held kc_nil) (ve_var 0))
  refine ae_s ?_ ae_nil
  refine se_ve (ve_fld (kc_cons K_Reader_held kc_nil) (ve_var 0))
  refine vss_cons ?_ ?_
  refine vs_fld (kc_cons K_Reader_held kc_nil) (ve_var 0) (ve_str [])
  refine vss_one (vs_retV (ve_var 1))
abbrev s_items_of : Stmt := top 20
theorem sc_items_of : FnScope ["text", "reader", "told"] ["text"] (defScope s_items_of) := ⟨rfl, rfl, rfl, by decide +kernel, rfl, by decide +kernel, by decide +kernel⟩
def b_items_of : MS :=
    (msSeq (msSet 1 (mMake "Reader" c_Reader___init__ maNil))
    (msSeq (msSet 2 (mMeth "Reader" "feed" c_Reader_feed (mVar 1) (maCons (mVar 0) maNil)))
    (msRet (mBin gAdd (mVar 2) (mMeth "Reader" "finish" c_Reader_finish (mVar 1) maNil)))))
def c_items_of : List D → Store → Res D := mFun 3 b_items_of
theorem ok_items_of {Pr : Program} {w : World} {K : Frag} {mg : Str → Option Value} {base : Heap} (D_items_of : Def K mg "items_of" s_items_of)
    (B : Blt mg)
    (C_Reader___init__ : CanC Pr w K mg base "Reader" ["self"] 1 (vSp K mg [.v] (rV K) c_Reader___init__))
    (C_Reader_feed : CanM Pr w K mg base "Reader" "feed" ["self", "piece"] 4 (vSp K mg [.v, .s] (rO K) c_Reader_feed))
    (C_Reader_finish : CanM Pr w K mg base "Reader" "finish" ["self"] 3 (vSp K mg [.v] (rV K) c_Reader_finish)) :
    Can Pr w K mg base "items_of" ["text"] 5 (vSp K mg [.s] (rO K) c_items_of) := by
  refine vdef (k := 4) (b := b_items_of) D_items_of sc_items_of (fun _ _ _ _ _ _ => bndS fun _ => bnd0 rfl) [.s] [.v, .v] rO_ok (fun _ _ _ _ => .inl ⟨rfl, Rp.non⟩) (body := fun f cdv A outer s H E hr P => ?_)
  refine vss_cons (vs_setV (i := 1) sc_items_of.nd rfl (by first | exact Or.inl rfl | exact Or.inr rfl) (ve_make0 C_Reader___init__ (hr.mono (by decide)))) ?_
  refine vss_cons ?_ ?_
  refine vs_setV (i := 2) sc_items_of.nd rfl (by first | exact Or.inl rfl | exact Or.inr rfl) ?_
  refine ve_oe ?_
  refine oe_meth C_Reader_feed (hr.mono (by decide)) (ve_var 1) ?_
  refine ae_s (se_var 0) ae_nil
  refine vss_one ?_
  refine vs_retO ?_
  refine oe_bin od_add (se_ve (ve_var 2)) ?_
  refine se_ve (ve_meth0 C_Reader_finish (hr.mono (by decide)) (ve_var 1))
abbrev s_pair_behind : Stmt := top 23
theorem sc_pair_behind : FnScope ["pair", "kind", "value"] ["pair", "kind", "value"] (defScope s_pair_behind) := ⟨rfl, rfl, rfl, by decide +kernel, rfl, by decide +kernel, by decide +kernel⟩
def b_pair_behind : MS :=
    (msSeq (msIf (mTest (mBin gEq (mVar 1) (mC (.str [105, 110, 107])))) (msRet (mTup (maCons (mG (mVar 2)) (maCons (mBin gIx (mVar 0) (mC (.int 1))) maNil)))) msNil)
    (msSeq (msIf (mTest (mBin gEq (mVar 1) (mC (.str [103, 114, 111, 117, 110, 100])))) (msRet (mTup (maCons (mBin gIx (mVar 0) (mC (.int 0))) (maCons (mG (mVar 2)) maNil)))) msNil)
    (msSeq (msIf (mTest (mBin gEq (mVar 1) (mC (.str [115, 105, 103, 110])))) (msRet (mG (mVar 0))) msNil)
    (msRet (mC (.tup [.str [46], .str [46]]))))))
def c_pair_behind : List D → Store → Res D := mFun 3 b_pair_behind
theorem ok_pair_behind {Pr : Program} {w : World} {K : Frag} {mg : Str → Option Value} {base : Heap} (D_pair_behind : Def K mg "pair_behind" s_pair_behind)
    (B : Blt mg)
    (c_PLAIN : CTup K mg "PLAIN" [[46], [46]]) :
    Can Pr w K mg base "pair_behind" ["pair", "kind", "value"] 1 (vSp K mg [.s, .s, .s] (rV K) c_pair_behind) := by
  refine vdef (k := 0) (b := b_pair_behind) D_pair_behind sc_pair_behind (fun _ _ _ _ _ _ => bndS fun _ => bndS fun _ => bndS fun _ => bnd0 rfl) [.s, .s, .s] [] rV_ok (fun _ _ _ _ => Rp.non) (body := fun f cdv A outer s H E hr P => ?_)
  refine vss_cons ?_ ?_
  refine vs_if ?_ ?_ vss_nil
  refine ts_cmp (od_eq hr) (se_var 1) (se_ve (ve_str [105, 110, 107])) (nomark _)
  refine vss_one ?_
  refine vs_retV ?_
  refine ve_tup 2 ?_
  refine ae_v (ve_se (se_var 2)) ?_
  refine ae_v ?_ ae_nil
  refine ve_ix (se_var 0) (se_ve ve_int)
  refine vss_cons ?_ ?_
  refine vs_if ?_ ?_ vss_nil
  refine ts_cmp (od_eq hr) (se_var 1) (se_ve (ve_str [103, 114, 111, 117, 110, 100])) (nomark _)
  refine vss_one ?_
  refine vs_retV ?_
  refine ve_tup 2 ?_
  refine ae_v ?_ ?_
  refine ve_ix (se_var 0) (se_ve ve_int)
  refine ae_v (ve_se (se_var 2)) ae_nil
  refine vss_cons ?_ ?_
  refine vs_if ?_ ?_ vss_nil
  refine ts_cmp (od_eq hr) (se_var 1) (se_ve (ve_str [115, 105, 103, 110])) (nomark _)
  refine vss_one ?_
  refine vs_retV (ve_se (se_var 0))
  refine vss_one (vs_retV (ve_ctup (ls := [[46], [46]]) c_PLAIN))
abbrev s_is_whole : Stmt := top 25
theorem sc_is_whole : FnScope ["thing"] ["thing"] (defScope s_is_whole) := ⟨rfl, rfl, rfl, by decide +kernel, rfl, by decide +kernel, by decide +kernel⟩
def b_is_whole : MS :=
    (msRet (mAndV (mIsi "int" (mVar 0)) (mNotV (mIsi "bool" (mVar 0)))))
def c_is_whole : List D → Store → Res D := mFun 1 b_is_whole
theorem ok_is_whole {Pr : Program} {w : World} {K : Frag} {mg : Str → Option Value} {base : Heap} (D_is_whole : Def K mg "is_whole" s_is_whole)
    (B : Blt mg) :
    Can Pr w K mg base "is_whole" ["thing"] 1 (vSp K mg [.s] (rV K) c_is_whole) := by
  refine vdef (k := 0) (b := b_is_whole) D_is_whole sc_is_whole (fun _ _ _ _ _ _ => bndS fun _ => bnd0 rfl) [.s] [] rV_ok (fun _ _ _ _ => Rp.non) (body := fun f cdv A outer s H E hr P => ?_)
  refine vss_one ?_
  refine vs_retV ?_
  refine ve_and ?_ ?_
  refine ve_oe (oe_isi "int" (hb := bt_int) B.isinstance_ B.int_ (se_var 0))
  refine ve_one ?_
  refine ve_not ?_
  refine ve_oe (oe_isi "bool" (hb := bt_bool) B.isinstance_ B.bool_ (se_var 0))
abbrev s_is_within : Stmt := top 26
theorem sc_is_within : FnScope ["thing", "least", "greatest"] ["thing", "least", "greatest"] (defScope s_is_within) := ⟨rfl, rfl, rfl, by decide +kernel, rfl, by decide +kernel, by decide +kernel⟩
def b_is_within : MS :=
    (msRet (mAndV (mCall c_is_whole (maCons (mVar 0) maNil)) (mChain gLe gLe (mVar 1) (mVar 0) (mVar 2))))
def c_is_within : List D → Store → Res D := mFun 3 b_is_within
theorem ok_is_within {Pr : Program} {w : World} {K : Frag} {mg : Str → Option Value} {base : Heap} (D_is_within : Def K mg "is_within" s_is_within)
    (B : Blt mg)
    (C_is_whole : Can Pr w K mg base "is_whole" ["thing"] 1 (vSp K mg [.s] (rV K) c_is_whole)) :
    Can Pr w K mg base "is_within" ["thing", "least", "greatest"] 2 (vSp K mg [.s, .s, .s] (rV K) c_is_within) := by
  refine vdef (k := 1) (b := b_is_within) D_is_within sc_is_within (fun _ _ _ _ _ _ => bndS fun _ => bndS fun _ => bndS fun _ => bnd0 rfl) [.s, .s, .s] [] rV_ok (fun _ _ _ _ => Rp.non) (body := fun f cdv A outer s H E hr P => ?_)
  refine vss_one ?_
  refine vs_retV ?_
  refine ve_and ?_ ?_
  refine ve_call C_is_whole (hr.mono (by decide)) ?_
  refine ae_s (se_var 0) ae_nil
  refine ve_one ?_
  refine ve_oe ?_
  refine oe_chain od_le od_le (se_var 1) (se_var 0) (se_var 2)
abbrev s_Maker_begin_row : Stmt := inClass (top 29) 5
theorem sc_Maker_begin_row : FnScope ["self"] ["self"] (defScope s_Maker_begin_row) := ⟨rfl, rfl, rfl, by decide +kernel, rfl, by decide +kernel, by decide +kernel⟩
def b_Maker_begin_row : MS :=
    (msSeq (msFld ["Maker"] "letters" (mVar 0) (mMl (mLst maNil)))
    (msSeq (msFld ["Maker"] "pair" (mVar 0) (mC (.tup [.str [46], .str [46]])))
    (msFld ["Maker"] "stale" (mVar 0) (mC (.bl false)))))
def c_Maker_begin_row : List D → Store → Res D := mFun 1 b_Maker_begin_row
theorem ok_Maker_begin_row {Pr : Program} {w : World} {K : Frag} {mg : Str → Option Value} {base : Heap} (D_Maker_begin_row : DefM K mg "Maker" "begin_row" "Maker.begin_row" s_Maker_begin_row)
    (B : Blt mg)
    (c_PLAIN : CTup K mg "PLAIN" [[46], [46]])
    (K_Maker_letters : KC K mg "Maker" "letters")
    (K_Maker_pair : KC K mg "Maker" "pair")
    (K_Maker_stale : KC K mg "Maker" "stale") :
    CanM Pr w K mg base "Maker" "begin_row" ["self"] 1 (vSp K mg [.v] (rV K) c_Maker_begin_row) := by
  refine vdefM (k := 0) (b := b_Maker_begin_row) D_Maker_begin_row sc_Maker_begin_row (fun _ _ _ _ _ _ => bndS fun _ => bnd0 rfl) [.v] [] rV_ok (fun _ _ _ _ => Rp.non) (body := fun f cdv A outer s H E hr P => ?_)
  refine vss_cons ?_ ?_
  refine vs_fld (kc_cons K_Maker_letters kc_nil) (ve_var 0) ?_
  refine ve_ml (oe_lst 0 ae_nil)
  refine vss_cons ?_ ?_
  refine vs_fld (kc_cons K_Maker_pair kc_nil) (ve_var 0) (ve_ctup (ls := [[46], [46]]) c_PLAIN)
  refine vss_one ?_
  refine vs_fld (kc_cons K_Maker_stale kc_nil) (ve_var 0) ve_bl
abbrev s_Maker___init__ : Stmt := inClass (top 29) 0
theorem sc_Maker___init__ : FnScope ["self", "most"] ["self", "most"] (defScope s_Maker___init__) := ⟨rfl, rfl, rfl, by decide +kernel, rfl, by decide +kernel, by decide +kernel⟩
def b_Maker___init__ : MS :=
    (msSeq (msIf (mtNot (mTru (mCall c_is_within (maCons (mVar 1) (maCons (mC (.int 1)) (maCons (mC (.int 200)) maNil)))))) msNo msNil)
    (msSeq (msFld ["Maker"] "most" (mVar 0) (mG (mVar 1)))
    (msSeq (msFld ["Maker"] "last_word" (mVar 0) (mC (.str [119, 104, 111, 108, 101])))
    (msDrop (mMeth "Maker" "begin_row" c_Maker_begin_row (mVar 0) maNil)))))
def c_Maker___init__ : List D → Store → Res D := mFun 2 b_Maker___init__
theorem ok_Maker___init__ {Pr : Program} {w : World} {K : Frag} {mg : Str → Option Value} {base : Heap} (D_Maker___init__ : DefC K mg "Maker" "Maker.__init__" s_Maker___init__)
    (B : Blt mg)
    (c_GREATEST_MOST : ∃ u, mg "GREATEST_MOST" = some u ∧ RelV (.int 200) u)
    (K_Maker_most : KC K mg "Maker" "most")
    (K_Maker_last_word : KC K mg "Maker" "last_word")
    (C_is_within : Can Pr w K mg base "is_within" ["thing", "least", "greatest"] 2 (vSp K mg [.s, .s, .s] (rV K) c_is_within))
    (C_Maker_begin_row : CanM Pr w K mg base "Maker" "begin_row" ["self"] 1 (vSp K mg [.v] (rV K) c_Maker_begin_row)) :
    CanC Pr w K mg base "Maker" ["self", "most"] 3 (vSp K mg [.v, .s] (rV K) c_Maker___init__) := by
  refine vdefC (k := 2) (b := b_Maker___init__) D_Maker___init__ sc_Maker___init__ (fun _ _ _ _ _ _ => bndS fun _ => bndS fun _ => bnd0 rfl) [.v, .s] [] rV_ok (fun _ _ _ _ => Rp.non) (body := fun f cdv A outer s H E hr P => ?_)
  refine vss_cons ?_ ?_
  refine vs_if ?_ (vss_one vs_never) vss_nil
  refine ts_not ?_
  refine ts_val ?_
  refine se_ve ?_
  refine ve_call C_is_within (hr.mono (by decide)) ?_
  refine ae_s (se_var 1) ?_
  refine ae_s (se_ve ve_int) ?_
  refine ae_s ?_ ae_nil
  refine se_ve ?_
  refine ve_const c_GREATEST_MOST (fun _ _ _ => Rp.int)
  refine vss_cons ?_ ?_
  refine vs_fld (kc_cons K_Maker_most kc_nil) (ve_var 0) (ve_se (se_var 1))
  refine vss_cons ?_ ?_
  refine vs_fld (kc_cons K_Maker_last_word kc_nil) (ve_var 0) (ve_str [119, 104, 111, 108, 101])
  refine vss_one ?_
  refine vs_expr ?_
  refine se_ve (ve_meth0 C_Maker_begin_row (hr.mono (by decide)) (ve_var 0))
abbrev s_Maker_tell : Stmt := inClass (top 29) 8
theorem sc_Maker_tell : FnScope ["self", "word", "part"] ["self", "word"] (defScope s_Maker_tell) := ⟨rfl, rfl, rfl, by decide +kernel, rfl, by decide +kernel, by decide +kernel⟩
def b_Maker_tell : MS :=
    (msSeq (msSet 2 (mTup (maCons (mFld ["Maker"] "letters" (mVar 0)) (maCons (mG (mVar 1)) maNil))))
    (msSeq (msFld ["Maker"] "letters" (mVar 0) (mMl (mLst maNil)))
    (msSeq (msFld ["Maker"] "last_word" (mVar 0) (mG (mVar 1)))
    (msRet (mLst (maCons (mVar 2) maNil))))))
def c_Maker_tell : List D → Store → Res D := mFun 3 b_Maker_tell
theorem ok_Maker_tell {Pr : Program} {w : World} {K : Frag} {mg : Str → Option Value} {base : Heap} (D_Maker_tell : DefM K mg "Maker" "tell" "Maker.tell" s_Maker_tell)
    (B : Blt mg)
    (K_Maker_letters : KC K mg "Maker" "letters")
    (K_Maker_last_word : KC K mg "Maker" "last_word") :
    CanM Pr w K mg base "Maker" "tell" ["self", "word"] 1 (vSp K mg [.v, .s] (rO K) c_Maker_tell) := by
  refine vdefM (k := 0) (b := b_Maker_tell) D_Maker_tell sc_Maker_tell (fun _ _ _ _ _ _ => bndS fun _ => bndS fun _ => bnd0 rfl) [.v, .s] [.v] rO_ok (fun _ _ _ _ => .inl ⟨rfl, Rp.non⟩) (body := fun f cdv A outer s H E hr P => ?_)
  refine vss_cons ?_ ?_
  refine vs_setV (i := 2) sc_Maker_tell.nd rfl (by first | exact Or.inl rfl | exact Or.inr rfl) ?_
  refine ve_tup 2 ?_
  refine ae_v (ve_fld (kc_cons K_Maker_letters kc_nil) (ve_var 0)) ?_
  refine ae_v (ve_se (se_var 1)) ae_nil
  refine vss_cons ?_ ?_
  refine vs_fld (kc_cons K_Maker_letters kc_nil) (ve_var 0) ?_
  refine ve_ml (oe_lst 0 ae_nil)
  refine vss_cons ?_ ?_
  refine vs_fld (kc_cons K_Maker_last_word kc_nil) (ve_var 0) (ve_se (se_var 1))
  refine vss_one ?_
  refine vs_retO ?_
  refine oe_lst 1 ?_
  refine ae_v (ve_var 2) ae_nil
abbrev s_Maker_empty_stale : Stmt := inClass (top 29) 6
theorem sc_Maker_empty_stale : FnScope ["self"] ["self"] (defScope s_Maker_empty_stale) := ⟨rfl, rfl, rfl, by decide +kernel, rfl, by decide +kernel, by decide +kernel⟩
def b_Maker_empty_stale : MS :=
    (msIf (mTru (mFld ["Maker"] "stale" (mVar 0))) (msSeq (msFld ["Maker"] "letters" (mVar 0) (mMl (mLst maNil)))
    (msFld ["Maker"] "stale" (mVar 0) (mC (.bl false)))) msNil)
def c_Maker_empty_stale : List D → Store → Res D := mFun 1 b_Maker_empty_stale
theorem ok_Maker_empty_stale {Pr : Program} {w : World} {K : Frag} {mg : Str → Option Value} {base : Heap} (D_Maker_empty_stale : DefM K mg "Maker" "empty_stale" "Maker.empty_stale" s_Maker_empty_stale)
    (B : Blt mg)
    (K_Maker_stale : KC K mg "Maker" "stale")
    (K_Maker_letters : KC K mg "Maker" "letters") :
    CanM Pr w K mg base "Maker" "empty_stale" ["self"] 1 (vSp K mg [.v] (rV K) c_Maker_empty_stale) := by
  refine vdefM (k := 0) (b := b_Maker_empty_stale) D_Maker_empty_stale sc_Maker_empty_stale (fun _ _ _ _ _ _ => bndS fun _ => bnd0 rfl) [.v] [] rV_ok (fun _ _ _ _ => Rp.non) (body := fun f cdv A outer s H E hr P => ?_)
  refine vss_one ?_
  refine vs_if ?_ ?_ vss_nil
  refine ts_val ?_
  refine se_ve (ve_fld (kc_cons K_Maker_stale kc_nil) (ve_var 0))
  refine vss_cons ?_ ?_
  refine vs_fld (kc_cons K_Maker_letters kc_nil) (ve_var 0) ?_
  refine ve_ml (oe_lst 0 ae_nil)
  refine vss_one ?_
  refine vs_fld (kc_cons K_Maker_stale kc_nil) (ve_var 0) ve_bl
abbrev s_Maker_add_letter : Stmt := inClass (top 29) 7
theorem sc_Maker_add_letter : FnScope ["self", "item", "told"] ["self", "item"] (defScope s_Maker_add_letter) := ⟨rfl, rfl, rfl, by decide +kernel, rfl, by decide +kernel, by decide +kernel⟩
def b_Maker_add_letter : MS :=
    (msSeq (msSet 2 (mLst maNil))
    (msSeq (msIf (mTest (mBin gEq (mCallB gLen (maCons (mFld ["Maker"] "letters" (mVar 0)) maNil)) (mFld ["Maker"] "most" (mVar 0)))) (msSet 2 (mMeth "Maker" "tell" c_Maker_tell (mVar 0) (maCons (mC (.str [109, 111, 114, 101])) maNil))) msNil)
    (msSeq (msAppO (mFld ["Maker"] "letters" (mVar 0)) (mTup (maCons (mBin gIx (mVar 1) (mC (.int 2))) (maCons (mBin gIx (mFld ["Maker"] "pair" (mVar 0)) (mC (.int 0))) (maCons (mBin gIx (mFld ["Maker"] "pair" (mVar 0)) (mC (.int 1))) (maCons (mBin gIx (mVar 1) (mC (.int 0))) maNil))))))
    (msRet (mVar 2)))))
def c_Maker_add_letter : List D → Store → Res D := mFun 3 b_Maker_add_letter
theorem ok_Maker_add_letter {Pr : Program} {w : World} {K : Frag} {mg : Str → Option Value} {base : Heap} (D_Maker_add_letter : DefM K mg "Maker" "add_letter" "Maker.add_letter" s_Maker_add_letter)
    (B : Blt mg)
    (K_Maker_most : KC K mg "Maker" "most")
    (K_Maker_letters : KC K mg "Maker" "letters")
    (K_Maker_pair : KC K mg "Maker" "pair")
    (C_Maker_tell : CanM Pr w K mg base "Maker" "tell" ["self", "word"] 1 (vSp K mg [.v, .s] (rO K) c_Maker_tell)) :
    CanM Pr w K mg base "Maker" "add_letter" ["self", "item"] 2 (vSp K mg [.v, .s] (rO K) c_Maker_add_letter) := by
  refine vdefM (k := 1) (b := b_Maker_add_letter) D_Maker_add_letter sc_Maker_add_letter (fun _ _ _ _ _ _ => bndS fun _ => bndS fun _ => bnd0 rfl) [.v, .s] [.o] rO_ok (fun _ _ _ _ => .inl ⟨rfl, Rp.non⟩) (body := fun f cdv A outer s H E hr P => ?_)
  refine vss_cons ?_ ?_
  refine vs_setO (i := 2) sc_Maker_add_letter.nd rfl (by first | exact Or.inl rfl | exact Or.inr rfl) (oe_lst 0 ae_nil)
  refine vss_cons ?_ ?_
  refine vs_if ?_ ?_ vss_nil
  refine ts_cmp (od_eq hr) ?_ ?_ (nomark _)
  refine se_oe ?_
  refine oe_callB (ms := [.s]) (hv := bb_len) cd_len B.len_ ?_
  refine ae_s ?_ ae_nil
  refine se_ve (ve_fld (kc_cons K_Maker_letters kc_nil) (ve_var 0))
  refine se_ve (ve_fld (kc_cons K_Maker_most kc_nil) (ve_var 0))
  refine vss_one ?_
  refine vs_setO (i := 2) sc_Maker_add_letter.nd rfl (by first | exact Or.inl rfl | exact Or.inr rfl) ?_
  refine oe_meth C_Maker_tell (hr.mono (by decide)) (ve_var 0) ?_
  refine ae_s (se_ve (ve_str [109, 111, 114, 101])) ae_nil
  refine vss_cons ?_ (vss_one (vs_retX 2))
  refine vs_appO (ve_fld (kc_cons K_Maker_letters kc_nil) (ve_var 0)) ?_
  refine ve_tup 4 ?_
  refine ae_v ?_ ?_
  refine ve_ix (se_var 1) (se_ve ve_int)
  refine ae_v ?_ ?_
  refine ve_ix ?_ (se_ve ve_int)
  refine se_ve (ve_fld (kc_cons K_Maker_pair kc_nil) (ve_var 0))
  refine ae_v ?_ ?_
  refine ve_ix ?_ (se_ve ve_int)
  refine se_ve (ve_fld (kc_cons K_Maker_pair kc_nil) (ve_var 0))
  refine ae_v ?_ ae_nil
  refine ve_ix (se_var 1) (se_ve ve_int)
abbrev s_Maker_put : Stmt := inClass (top 29) 1
theorem sc_Maker_put : FnScope ["self", "item", "kind", "told"] ["self", "item"] (defScope s_Maker_put) := ⟨rfl, rfl, rfl, by decide +kernel, rfl, by decide +kernel, by decide +kernel⟩
def b_Maker_put : MS :=
    (msSeq (msSet 2 (mBin gIx (mVar 1) (mC (.int 1))))
    (msSeq (msSet 3 (mLst maNil))
    (msSeq (msIf (mTest (mBin gEq (mVar 2) (mC (.str [101, 110, 100])))) (msSeq (msSet 3 (mMeth "Maker" "tell" c_Maker_tell (mVar 0) (maCons (mC (.str [119, 104, 111, 108, 101])) maNil)))
    (msFld ["Maker"] "stale" (mVar 0) (mC (.bl false)))) (msIf (mTest (mBin gEq (mVar 2) (mC (.str [97, 110, 101, 119])))) (msFld ["Maker"] "stale" (mVar 0) (mC (.bl true))) (msDrop (mMeth "Maker" "empty_stale" c_Maker_empty_stale (mVar 0) maNil))))
    (msSeq (msIf (mTest (mBin gEq (mVar 2) (mC (.str [115, 105, 103, 110])))) (msSet 3 (mMeth "Maker" "add_letter" c_Maker_add_letter (mVar 0) (maCons (mVar 1) maNil))) msNil)
    (msSeq (msFld ["Maker"] "pair" (mVar 0) (mCall c_pair_behind (maCons (mFld ["Maker"] "pair" (mVar 0)) (maCons (mVar 2) (maCons (mBin gIx (mVar 1) (mC (.int 2))) maNil)))))
    (msRet (mVar 3)))))))
def c_Maker_put : List D → Store → Res D := mFun 4 b_Maker_put
theorem ok_Maker_put {Pr : Program} {w : World} {K : Frag} {mg : Str → Option Value} {base : Heap} (D_Maker_put : DefM K mg "Maker" "put" "Maker.put" s_Maker_put)
    (B : Blt mg)
    (K_Maker_pair : KC K mg "Maker" "pair")
    (K_Maker_stale : KC K mg "Maker" "stale")
    (C_Maker_tell : CanM Pr w K mg base "Maker" "tell" ["self", "word"] 1 (vSp K mg [.v, .s] (rO K) c_Maker_tell))
    (C_Maker_empty_stale : CanM Pr w K mg base "Maker" "empty_stale" ["self"] 1 (vSp K mg [.v] (rV K) c_Maker_empty_stale))
    (C_Maker_add_letter : CanM Pr w K mg base "Maker" "add_letter" ["self", "item"] 2 (vSp K mg [.v, .s] (rO K) c_Maker_add_letter))
    (C_pair_behind : Can Pr w K mg base "pair_behind" ["pair", "kind", "value"] 1 (vSp K mg [.s, .s, .s] (rV K) c_pair_behind)) :
    CanM Pr w K mg base "Maker" "put" ["self", "item"] 3 (vSp K mg [.v, .s] (rO K) c_Maker_put) := by
  refine vdefM (k := 2) (b := b_Maker_put) D_Maker_put sc_Maker_put (fun _ _ _ _ _ _ => bndS fun _ => bndS fun _ => bnd0 rfl) [.v, .s] [.v, .o] rO_ok (fun _ _ _ _ => .inl ⟨rfl, Rp.non⟩) (body := fun f cdv A outer s H E hr P => ?_)
  refine vss_cons ?_ ?_
  refine vs_setV (i := 2) sc_Maker_put.nd rfl (by first | exact Or.inl rfl | exact Or.inr rfl) ?_
  refine ve_ix (se_var 1) (se_ve ve_int)
  refine vss_cons ?_ ?_
  refine vs_setO (i := 3) sc_Maker_put.nd rfl (by first | exact Or.inl rfl | exact Or.inr rfl) (oe_lst 0 ae_nil)
  refine vss_cons ?_ ?_
  refine vs_if ?_ ?_ ?_
  refine ts_cmp (od_eq hr) (se_ve (ve_var 2)) (se_ve (ve_str [101, 110, 100])) (nomark _)
  refine vss_cons ?_ ?_
  refine vs_setO (i := 3) sc_Maker_put.nd rfl (by first | exact Or.inl rfl | exact Or.inr rfl) ?_
  refine oe_meth C_Maker_tell (hr.mono (by decide)) (ve_var 0) ?_
  refine ae_s (se_ve (ve_str [119, 104, 111, 108, 101])) ae_nil
  refine vss_one ?_
  refine vs_fld (kc_cons K_Maker_stale kc_nil) (ve_var 0) ve_bl
  refine vss_one ?_
  refine vs_if ?_ ?_ ?_
  refine ts_cmp (od_eq hr) (se_ve (ve_var 2)) (se_ve (ve_str [97, 110, 101, 119])) (nomark _)
  refine vss_one ?_
  refine vs_fld (kc_cons K_Maker_stale kc_nil) (ve_var 0) ve_bl
  refine vss_one ?_
  refine vs_expr ?_
  refine se_ve (ve_meth0 C_Maker_empty_stale (hr.mono (by decide)) (ve_var 0))
  refine vss_cons ?_ ?_
  refine vs_if ?_ ?_ vss_nil
  refine ts_cmp (od_eq hr) (se_ve (ve_var 2)) (se_ve (ve_str [115, 105, 103, 110])) (nomark _)
  refine vss_one ?_
  refine vs_setO (i := 3) sc_Maker_put.nd rfl (by first | exact Or.inl rfl | exact Or.inr rfl) ?_
  refine oe_meth C_Maker_add_letter (hr.mono (by decide)) (ve_var 0) ?_
  refine ae_s (se_var 1) ae_nil
  refine vss_cons ?_ (vss_one (vs_retX 3))
  refine vs_fld (kc_cons K_Maker_pair kc_nil) (ve_var 0) ?_
  refine ve_call C_pair_behind (hr.mono (by decide)) ?_
  refine ae_s ?_ ?_
  refine se_ve (ve_fld (kc_cons K_Maker_pair kc_nil) (ve_var 0))
  refine ae_s (se_ve (ve_var 2)) ?_
  refine ae_s ?_ ae_nil
  refine se_ve ?_
  refine ve_ix (se_var 1) (se_ve ve_int)
abbrev s_Maker_open_letters : Stmt := inClass (top 29) 2
theorem sc_Maker_open_letters : FnScope ["self"] ["self"] (defScope s_Maker_open_letters) := ⟨rfl, rfl, rfl, by decide +kernel, rfl, by decide +kernel, by decide +kernel⟩
def b_Maker_open_letters : MS :=
    (msRet (mCallB gList (maCons (mFld ["Maker"] "letters" (mVar 0)) maNil)))
def c_Maker_open_letters : List D → Store → Res D := mFun 1 b_Maker_open_letters
theorem ok_Maker_open_letters {Pr : Program} {w : World} {K : Frag} {mg : Str → Option Value} {base : Heap} (D_Maker_open_letters : DefM K mg "Maker" "open_letters" "Maker.open_letters" s_Maker_open_letters)
    (B : Blt mg)
    (K_Maker_letters : KC K mg "Maker" "letters") :
    CanM Pr w K mg base "Maker" "open_letters" ["self"] 1 (vSp K mg [.v] (rO K) c_Maker_open_letters) := by
  refine vdefM (k := 0) (b := b_Maker_open_letters) D_Maker_open_letters sc_Maker_open_letters (fun _ _ _ _ _ _ => bndS fun _ => bnd0 rfl) [.v] [] rO_ok (fun _ _ _ _ => .inl ⟨rfl, Rp.non⟩) (body := fun f cdv A outer s H E hr P => ?_)
  refine vss_one ?_
  refine vs_retO ?_
  refine oe_callT (ms := [.s]) (hv := bt_list) cd_list B.list_ ?_
  refine ae_s ?_ ae_nil
  refine se_ve (ve_fld (kc_cons K_Maker_letters kc_nil) (ve_var 0))
abbrev s_rows_of : Stmt := top 30
theorem sc_rows_of : FnScope ["text", "most", "maker", "parts", "item"] ["text", "most"] (defScope s_rows_of) := ⟨rfl, rfl, rfl, by decide +kernel, rfl, by decide +kernel, by decide +kernel⟩
def b_rows_of : MS :=
    (msSeq (msSet 2 (mMake "Maker" c_Maker___init__ (maCons (mVar 1) maNil)))
    (msSeq (msSet 3 (mLst maNil))
    (msSeq (msFor (mIter (mCall c_items_of (maCons (mVar 0) maNil))) (mgN 4) (msExt 3 (mMeth "Maker" "put" c_Maker_put (mVar 2) (maCons (mVar 4) maNil))))
    (msFz (msRet (mTup (maCons (mVar 3) (maCons (mMl (mMeth "Maker" "open_letters" c_Maker_open_letters (mVar 2) maNil)) maNil))))))))
def c_rows_of : List D → Store → Res D := mFun 5 b_rows_of
theorem ok_rows_of {Pr : Program} {w : World} {K : Frag} {mg : Str → Option Value} {base : Heap} (D_rows_of : Def K mg "rows_of" s_rows_of)
    (B : Blt mg)
    (C_Maker___init__ : CanC Pr w K mg base "Maker" ["self", "most"] 3 (vSp K mg [.v, .s] (rV K) c_Maker___init__))
    (C_items_of : Can Pr w K mg base "items_of" ["text"] 5 (vSp K mg [.s] (rO K) c_items_of))
    (C_Maker_put : CanM Pr w K mg base "Maker" "put" ["self", "item"] 3 (vSp K mg [.v, .s] (rO K) c_Maker_put))
    (C_Maker_open_letters : CanM Pr w K mg base "Maker" "open_letters" ["self"] 1 (vSp K mg [.v] (rO K) c_Maker_open_letters)) :
    Can Pr w K mg base "rows_of" ["text", "most"] 6 (vSp K mg [.s, .s] (rV K) c_rows_of) := by
  refine vdef (k := 5) (b := b_rows_of) D_rows_of sc_rows_of (fun _ _ _ _ _ _ => bndS fun _ => bndS fun _ => bnd0 rfl) [.s, .s] [.v, .o, .v] rV_ok (fun _ _ _ _ => Rp.non) (body := fun f cdv A outer s H E hr P => ?_)
  refine vss_cons ?_ ?_
  refine vs_setV (i := 2) sc_rows_of.nd rfl (by first | exact Or.inl rfl | exact Or.inr rfl) ?_
  refine ve_make C_Maker___init__ (hr.mono (by decide)) ?_
  refine ae_s (se_var 1) ae_nil
  refine vss_cons ?_ ?_
  refine vs_setO (i := 3) sc_rows_of.nd rfl (by first | exact Or.inl rfl | exact Or.inr rfl) (oe_lst 0 ae_nil)
  refine vss_cons ?_ ?_
  refine vs_for rfl ?_ (vg_name (i := 4) sc_rows_of.nd rfl (by first | exact Or.inl rfl | exact Or.inr rfl)) ?_
  refine vi_any ?_
  refine we_ve ?_
  refine ve_oe ?_
  refine oe_call C_items_of (hr.mono (by decide)) ?_
  refine ae_s (se_var 0) ae_nil
  refine vss_one ?_
  refine vs_extend 3 ?_
  refine se_oe ?_
  refine oe_meth C_Maker_put (hr.mono (by decide)) (ve_var 2) ?_
  refine ae_s (se_ve (ve_var 4)) ae_nil
  refine vss_one ?_
  refine vs_frz 3 rfl ?_
  refine vs_retV ?_
  refine ve_tup 2 ?_
  refine ae_v (ve_var 3) ?_
  refine ae_v ?_ ae_nil
  refine ve_ml (oe_meth0 C_Maker_open_letters (hr.mono (by decide)) (ve_var 2))
abbrev s_law_cell : Stmt := top 32
theorem sc_law_cell : FnScope ["_law_script", "_law_k"] ["_law_script", "_law_k"] (defScope s_law_cell) := ⟨rfl, rfl, rfl, by decide +kernel, rfl, by decide +kernel, by decide +kernel⟩
def b_law_cell : MS :=
    (msSeq (msIf (mTest (mBin gLt (mVar 1) (mCallB gLen (maCons (mVar 0) maNil)))) (msRet (mBin gIx (mVar 0) (mVar 1))) msNil)
    (msRet (mC (.int 0))))
def c_law_cell : List D → Store → Res D := mFun 2 b_law_cell
theorem ok_law_cell {Pr : Program} {w : World} {K : Frag} {mg : Str → Option Value} {base : Heap} (D_law_cell : Def K mg "_law_cell" s_law_cell)
    (B : Blt mg) :
    Can Pr w K mg base "_law_cell" ["_law_script", "_law_k"] 1 (vSp K mg [.s, .s] (rV K) c_law_cell) := by
  refine vdef (k := 0) (b := b_law_cell) D_law_cell sc_law_cell (fun _ _ _ _ _ _ => bndS fun _ => bndS fun _ => bnd0 rfl) [.s, .s] [] rV_ok (fun _ _ _ _ => Rp.non) (body := fun f cdv A outer s H E hr P => ?_)
  refine vss_cons ?_ ?_
  refine vs_if ?_ ?_ vss_nil
  refine ts_cmp od_lt (se_var 1) ?_ (nomark _)
  refine se_oe ?_
  refine oe_callB (ms := [.s]) (hv := bb_len) cd_len B.len_ ?_
  refine ae_s (se_var 0) ae_nil
  refine vss_one ?_
  refine vs_retV ?_
  refine ve_ix (se_var 0) (se_var 1)
  refine vss_one (vs_retV ve_int)
abbrev s_law_mix : Stmt := top 33
theorem sc_law_mix : FnScope ["_law_cell_here", "_law_k", "_law_rest", "_law_turn", "_law_number"] ["_law_cell_here", "_law_k"] (defScope s_law_mix) := ⟨rfl, rfl, rfl, by decide +kernel, rfl, by decide +kernel, by decide +kernel⟩
def b_law_mix : MS :=
    (msSeq (msIf (mTest (mBin gGt (mVar 0) (mBin gPow (mC (.int 10)) (mC (.int 18))))) (msSeq (msSet 2 (mG (mVar 0)))
    (msSeq (msFor (mRng1 (maCons (mVar 1) maNil)) (mgN 3) (msSet 2 (mBin gFdiv (mVar 2) (mBin gPow (mC (.int 10)) (mC (.int 9))))))
    (msRet (mBin gMod (mVar 2) (mBin gPow (mC (.int 10)) (mC (.int 9))))))) msNil)
    (msSeq (msSet 4 (mBin gAdd (mBin gMod (mVar 0) (mC (.int 2147483647))) (mC (.int 7919))))
    (msSeq (msFor (mRng1 (maCons (mBin gAdd (mVar 1) (mC (.int 2))) maNil)) (mgN 3) (msSet 4 (mBin gMod (mBin gAdd (mBin gMul (mVar 4) (mC (.int 48271))) (mC (.int 104729))) (mC (.int 2147483629)))))
    (msRet (mBin gFdiv (mBin gMod (mBin gMul (mVar 4) (mVar 4)) (mC (.int 998244353))) (mC (.int 11)))))))
def c_law_mix : List D → Store → Res D := mFun 5 b_law_mix
theorem ok_law_mix {Pr : Program} {w : World} {K : Frag} {mg : Str → Option Value} {base : Heap} (D_law_mix : Def K mg "_law_mix" s_law_mix)
    (B : Blt mg) :
    Can Pr w K mg base "_law_mix" ["_law_cell_here", "_law_k"] 1 (vSp K mg [.s, .s] (rV K) c_law_mix) := by
  refine vdef (k := 0) (b := b_law_mix) D_law_mix sc_law_mix (fun _ _ _ _ _ _ => bndS fun _ => bndS fun _ => bnd0 rfl) [.s, .s] [.v, .v, .v] rV_ok (fun _ _ _ _ => Rp.non) (body := fun f cdv A outer s H E hr P => ?_)
  refine vss_cons ?_ ?_
  refine vs_if ?_ ?_ vss_nil
  refine ts_cmp od_gt (se_var 0) ?_ (nomark _)
  refine se_oe ?_
  refine oe_bin od_pow (se_ve ve_int) (se_ve ve_int)
  refine vss_cons ?_ ?_
  refine vs_setV (i := 2) sc_law_mix.nd rfl (by first | exact Or.inl rfl | exact Or.inr rfl) (ve_se (se_var 0))
  refine vss_cons ?_ ?_
  refine vs_for rfl ?_ (vg_name (i := 3) sc_law_mix.nd rfl (by first | exact Or.inl rfl | exact Or.inr rfl)) ?_
  refine vi_range1 B.range_ ?_
  refine ae_s (se_var 1) ae_nil
  refine vss_one ?_
  refine vs_setV (i := 2) sc_law_mix.nd rfl (by first | exact Or.inl rfl | exact Or.inr rfl) ?_
  refine ve_oe ?_
  refine oe_bin od_fdiv (se_ve (ve_var 2)) ?_
  refine se_oe ?_
  refine oe_bin od_pow (se_ve ve_int) (se_ve ve_int)
  refine vss_one ?_
  refine vs_retV ?_
  refine ve_oe ?_
  refine oe_bin od_mod (se_ve (ve_var 2)) ?_
  refine se_oe ?_
  refine oe_bin od_pow (se_ve ve_int) (se_ve ve_int)
  refine vss_cons ?_ ?_
  refine vs_setV (i := 4) sc_law_mix.nd rfl (by first | exact Or.inl rfl | exact Or.inr rfl) ?_
  refine ve_oe ?_
  refine oe_bin od_add ?_ (se_ve ve_int)
  refine se_oe ?_
  refine oe_bin od_mod (se_var 0) (se_ve ve_int)
  refine vss_cons ?_ ?_
  refine vs_for rfl ?_ (vg_name (i := 3) sc_law_mix.nd rfl (by first | exact Or.inl rfl | exact Or.inr rfl)) ?_
  refine vi_range1 B.range_ ?_
  refine ae_s ?_ ae_nil
  refine se_oe ?_
  refine oe_bin od_add (se_var 1) (se_ve ve_int)
  refine vss_one ?_
  refine vs_setV (i := 4) sc_law_mix.nd rfl (by first | exact Or.inl rfl | exact Or.inr rfl) ?_
  refine ve_oe ?_
  refine oe_bin od_mod ?_ (se_ve ve_int)
  refine se_oe ?_
  refine oe_bin od_add ?_ (se_ve ve_int)
  refine se_oe ?_
  refine oe_bin od_mul (se_ve (ve_var 4)) (se_ve ve_int)
  refine vss_one ?_
  refine vs_retV ?_
  refine ve_oe ?_
  refine oe_bin od_fdiv ?_ (se_ve ve_int)
  refine se_oe ?_
  refine oe_bin od_mod ?_ (se_ve ve_int)
  refine se_oe ?_
  refine oe_bin od_mul (se_ve (ve_var 4)) (se_ve (ve_var 4))
abbrev s_law_item : Stmt := top 35
theorem sc_law_item : FnScope ["_law_text", "_law_at", "_law_colours", "_law_here"] ["_law_text", "_law_at"] (defScope s_law_item) := ⟨rfl, rfl, rfl, by decide +kernel, rfl, by decide +kernel, by decide +kernel⟩
def b_law_item : MS :=
    (msSeq (msSet 2 (mC (.str [97, 98, 99, 100, 101, 102, 103, 104, 46])))
    (msSeq (msSet 3 (mSl (mVar 0) (moS (mG (mVar 1))) (moS (mBin gAdd (mVar 1) (mC (.int 4))))))
    (msSeq (msIf (mTest (mBin gEq (mBin gIx (mVar 3) (mC (.int 0))) (mC (.str [10])))) (msRet (mTup (maCons (mTup (maCons (mG (mVar 1)) (maCons (mC (.str [101, 110, 100])) (maCons (mC (.str [])) maNil)))) (maCons (mC (.int 1)) maNil)))) msNil)
    (msSeq (msIf (mTest (mBin gEq (mBin gIx (mVar 3) (mC (.int 0))) (mC (.str [9])))) (msRet (mTup (maCons (mTup (maCons (mG (mVar 1)) (maCons (mC (.str [97, 110, 101, 119])) (maCons (mC (.str [])) maNil)))) (maCons (mC (.int 1)) maNil)))) msNil)
    (msSeq (msIf (mTest (mBin gEq (mSl (mVar 3) moN (moS (mC (.int 2)))) (mC (.str [91, 93])))) (msRet (mTup (maCons (mTup (maCons (mG (mVar 1)) (maCons (mC (.str [112, 108, 97, 105, 110])) (maCons (mC (.str [])) maNil)))) (maCons (mC (.int 2)) maNil)))) msNil)
    (msSeq (msIf (mTest (mBin gEq (mSl (mVar 3) moN (moS (mC (.int 2)))) (mC (.str [91, 91])))) (msRet (mTup (maCons (mTup (maCons (mG (mVar 1)) (maCons (mC (.str [115, 105, 103, 110])) (maCons (mC (.str [91])) maNil)))) (maCons (mC (.int 2)) maNil)))) msNil)
    (msSeq (msIf (mtAnd (mTest (mBin gGt (mCallB gLen (maCons (mVar 3) maNil)) (mC (.int 2)))) (mtAnd (mTest (mBin gEq (mBin gIx (mVar 3) (mC (.int 0))) (mC (.str [91])))) (mtAnd (mTest (mBin (gIn false) (mBin gIx (mVar 3) (mC (.int 1))) (mVar 2))) (mTest (mBin gEq (mBin gIx (mVar 3) (mC (.int 2))) (mC (.str [93]))))))) (msRet (mTup (maCons (mTup (maCons (mG (mVar 1)) (maCons (mC (.str [105, 110, 107])) (maCons (mBin gIx (mVar 3) (mC (.int 1))) maNil)))) (maCons (mC (.int 3)) maNil)))) msNil)
    (msSeq (msIf (mtAnd (mTest (mBin gEq (mCallB gLen (maCons (mVar 3) maNil)) (mC (.int 4)))) (mtAnd (mTest (mBin gEq (mSl (mVar 3) moN (moS (mC (.int 2)))) (mC (.str [91, 47])))) (mtAnd (mTest (mBin (gIn false) (mBin gIx (mVar 3) (mC (.int 2))) (mVar 2))) (mTest (mBin gEq (mBin gIx (mVar 3) (mC (.int 3))) (mC (.str [93]))))))) (msRet (mTup (maCons (mTup (maCons (mG (mVar 1)) (maCons (mC (.str [103, 114, 111, 117, 110, 100])) (maCons (mBin gIx (mVar 3) (mC (.int 2))) maNil)))) (maCons (mC (.int 4)) maNil)))) msNil)
    (msRet (mTup (maCons (mTup (maCons (mG (mVar 1)) (maCons (mC (.str [115, 105, 103, 110])) (maCons (mBin gIx (mVar 3) (mC (.int 0))) maNil)))) (maCons (mC (.int 1)) maNil))))))))))))
def c_law_item : List D → Store → Res D := mFun 4 b_law_item
theorem ok_law_item {Pr : Program} {w : World} {K : Frag} {mg : Str → Option Value} {base : Heap} (D_law_item : Def K mg "_law_item" s_law_item)
    (B : Blt mg) :
    Can Pr w K mg base "_law_item" ["_law_text", "_law_at"] 1 (vSp K mg [.s, .s] (rV K) c_law_item) := by
  refine vdef (k := 0) (b := b_law_item) D_law_item sc_law_item (fun _ _ _ _ _ _ => bndS fun _ => bndS fun _ => bnd0 rfl) [.s, .s] [.v, .v] rV_ok (fun _ _ _ _ => Rp.non) (body := fun f cdv A outer s H E hr P => ?_)
  refine vss_cons (vs_setV (i := 2) sc_law_item.nd rfl (by first | exact Or.inl rfl | exact Or.inr rfl) (ve_str [97, 98, 99, 100, 101, 102, 103, 104, 46])) ?_
  refine vss_cons ?_ ?_
  refine vs_setV (i := 3) sc_law_item.nd rfl (by first | exact Or.inl rfl | exact Or.inr rfl) ?_
  refine ve_oe ?_
  refine oe_slice (se_var 0) ?_ ?_
  refine vo_some (ve_se (se_var 1))
  refine vo_some ?_
  refine ve_oe ?_
  refine oe_bin od_add (se_var 1) (se_ve ve_int)
  refine vss_cons ?_ ?_
  refine vs_if ?_ ?_ vss_nil
  refine ts_cmp (od_eq hr) ?_ (se_ve (ve_str [10])) (nomark _)
  refine se_ve ?_
  refine ve_ix (se_ve (ve_var 3)) (se_ve ve_int)
  refine vss_one ?_
  refine vs_retV ?_
  refine ve_tup 2 ?_
  refine ae_v ?_ ?_
  refine ve_tup 3 ?_
  refine ae_v (ve_se (se_var 1)) ?_
  refine ae_v (ve_str [101, 110, 100]) ?_
  refine ae_v (ve_str []) ae_nil
  refine ae_v ve_int ae_nil
  refine vss_cons ?_ ?_
  refine vs_if ?_ ?_ vss_nil
  refine ts_cmp (od_eq hr) ?_ (se_ve (ve_str [9])) (nomark _)
  refine se_ve ?_
  refine ve_ix (se_ve (ve_var 3)) (se_ve ve_int)
  refine vss_one ?_
  refine vs_retV ?_
  refine ve_tup 2 ?_
  refine ae_v ?_ ?_
  refine ve_tup 3 ?_
  refine ae_v (ve_se (se_var 1)) ?_
  refine ae_v (ve_str [97, 110, 101, 119]) ?_
  refine ae_v (ve_str []) ae_nil
  refine ae_v ve_int ae_nil
  refine vss_cons ?_ ?_
  refine vs_if ?_ ?_ vss_nil
  refine ts_cmp (od_eq hr) ?_ (se_ve (ve_str [91, 93])) (nomark _)
  refine se_oe ?_
  refine oe_slice (se_ve (ve_var 3)) vo_none (vo_some ve_int)
  refine vss_one ?_
  refine vs_retV ?_
  refine ve_tup 2 ?_
  refine ae_v ?_ ?_
  refine ve_tup 3 ?_
  refine ae_v (ve_se (se_var 1)) ?_
  refine ae_v (ve_str [112, 108, 97, 105, 110]) ?_
  refine ae_v (ve_str []) ae_nil
  refine ae_v ve_int ae_nil
  refine vss_cons ?_ ?_
  refine vs_if ?_ ?_ vss_nil
  refine ts_cmp (od_eq hr) ?_ (se_ve (ve_str [91, 91])) (nomark _)
  refine se_oe ?_
  refine oe_slice (se_ve (ve_var 3)) vo_none (vo_some ve_int)
  refine vss_one ?_
  refine vs_retV ?_
  refine ve_tup 2 ?_
  refine ae_v ?_ ?_
  refine ve_tup 3 ?_
  refine ae_v (ve_se (se_var 1)) ?_
  refine ae_v (ve_str [115, 105, 103, 110]) ?_
  refine ae_v (ve_str [91]) ae_nil
  refine ae_v ve_int ae_nil
  refine vss_cons ?_ ?_
  refine vs_if ?_ ?_ vss_nil
  refine ts_w ?_
  refine tw_and ?_ ?_
  refine ts_cmp od_gt ?_ (se_ve ve_int) (nomark _)
  refine se_oe ?_
  refine oe_callB (ms := [.s]) (hv := bb_len) cd_len B.len_ ?_
  refine ae_s (se_ve (ve_var 3)) ae_nil
  refine tw_and ?_ ?_
  refine ts_cmp (od_eq hr) ?_ (se_ve (ve_str [91])) (nomark _)
  refine se_ve ?_
  refine ve_ix (se_ve (ve_var 3)) (se_ve ve_int)
  refine tw_and ?_ ?_
  refine ts_cmp od_in ?_ (se_ve (ve_var 2)) (by with_unfolding_all rfl)
  refine se_ve ?_
  refine ve_ix (se_ve (ve_var 3)) (se_ve ve_int)
  refine tw_and1 ?_
  refine ts_cmp (od_eq hr) ?_ (se_ve (ve_str [93])) (nomark _)
  refine se_ve ?_
  refine ve_ix (se_ve (ve_var 3)) (se_ve ve_int)
  refine vss_one ?_
  refine vs_retV ?_
  refine ve_tup 2 ?_
  refine ae_v ?_ ?_
  refine ve_tup 3 ?_
  refine ae_v (ve_se (se_var 1)) ?_
  refine ae_v (ve_str [105, 110, 107]) ?_
  refine ae_v ?_ ae_nil
  refine ve_ix (se_ve (ve_var 3)) (se_ve ve_int)
  refine ae_v ve_int ae_nil
  refine vss_cons ?_ ?_
  refine vs_if ?_ ?_ vss_nil
  refine ts_w ?_
  refine tw_and ?_ ?_
  refine ts_cmp (od_eq hr) ?_ (se_ve ve_int) (nomark _)
  refine se_oe ?_
  refine oe_callB (ms := [.s]) (hv := bb_len) cd_len B.len_ ?_
  refine ae_s (se_ve (ve_var 3)) ae_nil
  refine tw_and ?_ ?_
  refine ts_cmp (od_eq hr) ?_ (se_ve (ve_str [91, 47])) (nomark _)
  refine se_oe ?_
  refine oe_slice (se_ve (ve_var 3)) vo_none (vo_some ve_int)
  refine tw_and ?_ ?_
  refine ts_cmp od_in ?_ (se_ve (ve_var 2)) (by with_unfolding_all rfl)
  refine se_ve ?_
  refine ve_ix (se_ve (ve_var 3)) (se_ve ve_int)
  refine tw_and1 ?_
  refine ts_cmp (od_eq hr) ?_ (se_ve (ve_str [93])) (nomark _)
  refine se_ve ?_
  refine ve_ix (se_ve (ve_var 3)) (se_ve ve_int)
  refine vss_one ?_
  refine vs_retV ?_
  refine ve_tup 2 ?_
  refine ae_v ?_ ?_
  refine ve_tup 3 ?_
  refine ae_v (ve_se (se_var 1)) ?_
  refine ae_v (ve_str [103, 114, 111, 117, 110, 100]) ?_
  refine ae_v ?_ ae_nil
  refine ve_ix (se_ve (ve_var 3)) (se_ve ve_int)
  refine ae_v ve_int ae_nil
  refine vss_one ?_
  refine vs_retV ?_
  refine ve_tup 2 ?_
  refine ae_v ?_ ?_
  refine ve_tup 3 ?_
  refine ae_v (ve_se (se_var 1)) ?_
  refine ae_v (ve_str [115, 105, 103, 110]) ?_
  refine ae_v ?_ ae_nil
  refine ve_ix (se_ve (ve_var 3)) (se_ve ve_int)
  refine ae_v ve_int ae_nil
abbrev s_law_items : Stmt := top 36
theorem sc_law_items : FnScope ["_law_text", "_law_items_here", "_law_at", "_law_item_here", "_law_size"] ["_law_text"] (defScope s_law_items) := ⟨rfl, rfl, rfl, by decide +kernel, rfl, by decide +kernel, by decide +kernel⟩
def b_law_items : MS :=
    (msSeq (msSet 1 (mLst maNil))
    (msSeq (msSet 2 (mC (.int 0)))
    (msSeq (msWhile wF (mTest (mBin gLt (mVar 2) (mCallB gLen (maCons (mVar 0) maNil)))) (msSeq (msAsg (mCall c_law_item (maCons (mVar 0) (maCons (mVar 2) maNil))) (mgN' 2 (mgsCons (mgN 3) (mgsCons (mgN 4) mgsNil))))
    (msSeq (msApp 1 (mVar 3))
    (msSet 2 (mBin gAdd (mVar 2) (mVar 4))))))
    (msRet (mVar 1)))))
def c_law_items : List D → Store → Res D := mFun 5 b_law_items
theorem ok_law_items {Pr : Program} {w : World} {K : Frag} {mg : Str → Option Value} {base : Heap} (D_law_items : Def K mg "_law_items" s_law_items)
    (B : Blt mg)
    (C_law_item : Can Pr w K mg base "_law_item" ["_law_text", "_law_at"] 1 (vSp K mg [.s, .s] (rV K) c_law_item)) :
    Can Pr w K mg base "_law_items" ["_law_text"] 2 (vSp K mg [.s] (rO K) c_law_items) := by
  refine vdef (k := 1) (b := b_law_items) D_law_items sc_law_items (fun _ _ _ _ _ _ => bndS fun _ => bnd0 rfl) [.s] [.o, .v, .v, .v] rO_ok (fun _ _ _ _ => .inl ⟨rfl, Rp.non⟩) (body := fun f cdv A outer s H E hr P => ?_)
  refine vss_cons ?_ ?_
  refine vs_setO (i := 1) sc_law_items.nd rfl (by first | exact Or.inl rfl | exact Or.inr rfl) (oe_lst 0 ae_nil)
  refine vss_cons (vs_setV (i := 2) sc_law_items.nd rfl (by first | exact Or.inl rfl | exact Or.inr rfl) ve_int) ?_
  refine vss_cons ?_ (vss_one (vs_retX 1))
  refine vs_while wF ?_ ?_
  refine ts_cmp od_lt (se_ve (ve_var 2)) ?_ (nomark _)
  refine se_oe ?_
  refine oe_callB (ms := [.s]) (hv := bb_len) cd_len B.len_ ?_
  refine ae_s (se_var 0) ae_nil
  refine vss_cons ?_ ?_
  refine vs_asg ?_ ?_
  refine ve_call C_law_item (hr.mono (by decide)) ?_
  refine ae_s (se_var 0) ?_
  refine ae_s (se_ve (ve_var 2)) ae_nil
  refine vg_tup 2 rfl ?_
  refine vgs_cons (vg_name (i := 3) sc_law_items.nd rfl (by first | exact Or.inl rfl | exact Or.inr rfl)) ?_
  refine vgs_cons (vg_name (i := 4) sc_law_items.nd rfl (by first | exact Or.inl rfl | exact Or.inr rfl)) vgs_nil
  refine vss_cons (vs_append 1 (ve_var 3)) ?_
  refine vss_one ?_
  refine vs_setV (i := 2) sc_law_items.nd rfl (by first | exact Or.inl rfl | exact Or.inr rfl) ?_
  refine ve_oe ?_
  refine oe_bin od_add (se_ve (ve_var 2)) (se_ve (ve_var 4))
abbrev s_law_parts : Stmt := top 37
theorem sc_law_parts : FnScope ["_law_items_here", "_law_most", "_law_parts_here", "_law_row", "_law_stale", "_law_colours", "_law_place", "_law_kind", "_law_value"] ["_law_items_here", "_law_most"] (defScope s_law_parts) := ⟨rfl, rfl, rfl, by decide +kernel, rfl, by decide +kernel, by decide +kernel⟩
def b_law_parts : MS :=
    (msSeq (msSet 2 (mLst maNil))
    (msSeq (msSet 3 (mLst maNil))
    (msSeq (msSet 4 (mC (.bl false)))
    (msSeq (msSet 5 (mLst (maCons (mC (.str [46])) (maCons (mC (.str [46])) maNil))))
    (msSeq (msFor (mIter (mVar 0)) (mgN' 3 (mgsCons (mgN 6) (mgsCons (mgN 7) (mgsCons (mgN 8) mgsNil)))) (msSeq (msIf (mtAnd (mTru (mVar 4)) (mtAnd (mTest (mBin gNe (mVar 7) (mC (.str [101, 110, 100])))) (mTest (mBin gNe (mVar 7) (mC (.str [97, 110, 101, 119])))))) (msSeq (msSet 3 (mLst maNil))
    (msSet 4 (mC (.bl false)))) msNil)
    (msSeq (msIf (mTest (mBin gEq (mVar 7) (mC (.str [115, 105, 103, 110])))) (msSeq (msIf (mTest (mBin gEq (mCallB gLen (maCons (mVar 3) maNil)) (mVar 1))) (msSeq (msApp 2 (mTup (maCons (mVar 3) (maCons (mC (.str [109, 111, 114, 101])) maNil))))
    (msSet 3 (mLst maNil))) msNil)
    (msSet 3 (mBin gAdd (mVar 3) (mLst (maCons (mTup (maCons (mVar 8) (maCons (mBin gIx (mVar 5) (mC (.int 0))) (maCons (mBin gIx (mVar 5) (mC (.int 1))) (maCons (mVar 6) maNil))))) maNil))))) (msIf (mTest (mBin gEq (mVar 7) (mC (.str [105, 110, 107])))) (msSetIx 5 (mC (.int 0)) (mVar 8)) (msIf (mTest (mBin gEq (mVar 7) (mC (.str [103, 114, 111, 117, 110, 100])))) (msSetIx 5 (mC (.int 1)) (mVar 8)) (msSet 5 (mLst (maCons (mC (.str [46])) (maCons (mC (.str [46])) maNil)))))))
    (msSeq (msIf (mTest (mBin gEq (mVar 7) (mC (.str [97, 110, 101, 119])))) (msSet 4 (mC (.bl true))) msNil)
    (msIf (mTest (mBin gEq (mVar 7) (mC (.str [101, 110, 100])))) (msSeq (msApp 2 (mTup (maCons (mVar 3) (maCons (mC (.str [119, 104, 111, 108, 101])) maNil))))
    (msSeq (msSet 3 (mLst maNil))
    (msSet 4 (mC (.bl false))))) msNil)))))
    (msFz (msRet (mTup (maCons (mVar 2) (maCons (mVar 3) maNil))))))))))
def c_law_parts : List D → Store → Res D := mFun 9 b_law_parts
theorem ok_law_parts {Pr : Program} {w : World} {K : Frag} {mg : Str → Option Value} {base : Heap} (D_law_parts : Def K mg "_law_parts" s_law_parts)
    (B : Blt mg) :
    Can Pr w K mg base "_law_parts" ["_law_items_here", "_law_most"] 1 (vSp K mg [.s, .s] (rV K) c_law_parts) := by
  refine vdef (k := 0) (b := b_law_parts) D_law_parts sc_law_parts (fun _ _ _ _ _ _ => bndS fun _ => bndS fun _ => bnd0 rfl) [.s, .s] [.o, .v, .v, .o, .v, .v, .v] rV_ok (fun _ _ _ _ => Rp.non) (body := fun f cdv A outer s H E hr P => ?_)
  refine vss_cons ?_ ?_
  refine vs_setO (i := 2) sc_law_parts.nd rfl (by first | exact Or.inl rfl | exact Or.inr rfl) (oe_lst 0 ae_nil)
  refine vss_cons ?_ ?_
  refine vs_setV (i := 3) sc_law_parts.nd rfl (by first | exact Or.inl rfl | exact Or.inr rfl) ?_
  refine ve_oe (oe_lst 0 ae_nil)
  refine vss_cons (vs_setV (i := 4) sc_law_parts.nd rfl (by first | exact Or.inl rfl | exact Or.inr rfl) ve_bl) ?_
  refine vss_cons ?_ ?_
  refine vs_setO (i := 5) sc_law_parts.nd rfl (by first | exact Or.inl rfl | exact Or.inr rfl) ?_
  refine oe_lst 2 ?_
  refine ae_v (ve_str [46]) ?_
  refine ae_v (ve_str [46]) ae_nil
  refine vss_cons ?_ ?_
  refine vs_for rfl (vi_any (we_var 0)) ?_ ?_
  refine vg_tup 3 rfl ?_
  refine vgs_cons (vg_name (i := 6) sc_law_parts.nd rfl (by first | exact Or.inl rfl | exact Or.inr rfl)) ?_
  refine vgs_cons (vg_name (i := 7) sc_law_parts.nd rfl (by first | exact Or.inl rfl | exact Or.inr rfl)) ?_
  refine vgs_cons (vg_name (i := 8) sc_law_parts.nd rfl (by first | exact Or.inl rfl | exact Or.inr rfl)) vgs_nil
  refine vss_cons ?_ ?_
  refine vs_if ?_ ?_ vss_nil
  refine ts_w ?_
  refine tw_and ?_ ?_
  refine ts_val (se_ve (ve_var 4))
  refine tw_and ?_ ?_
  refine ts_cmp (od_ne hr) (se_ve (ve_var 7)) (se_ve (ve_str [101, 110, 100])) (nomark _)
  refine tw_and1 ?_
  refine ts_cmp (od_ne hr) (se_ve (ve_var 7)) (se_ve (ve_str [97, 110, 101, 119])) (nomark _)
  refine vss_cons ?_ ?_
  refine vs_setV (i := 3) sc_law_parts.nd rfl (by first | exact Or.inl rfl | exact Or.inr rfl) ?_
  refine ve_oe (oe_lst 0 ae_nil)
  refine vss_one (vs_setV (i := 4) sc_law_parts.nd rfl (by first | exact Or.inl rfl | exact Or.inr rfl) ve_bl)
  refine vss_cons ?_ ?_
  refine vs_if ?_ ?_ ?_
  refine ts_cmp (od_eq hr) (se_ve (ve_var 7)) (se_ve (ve_str [115, 105, 103, 110])) (nomark _)
  refine vss_cons ?_ ?_
  refine vs_if ?_ ?_ vss_nil
  refine ts_cmp (od_eq hr) ?_ (se_var 1) (nomark _)
  refine se_oe ?_
  refine oe_callB (ms := [.s]) (hv := bb_len) cd_len B.len_ ?_
  refine ae_s (se_ve (ve_var 3)) ae_nil
  refine vss_cons ?_ ?_
  refine vs_append 2 ?_
  refine ve_tup 2 ?_
  refine ae_v (ve_var 3) ?_
  refine ae_v (ve_str [109, 111, 114, 101]) ae_nil
  refine vss_one ?_
  refine vs_setV (i := 3) sc_law_parts.nd rfl (by first | exact Or.inl rfl | exact Or.inr rfl) ?_
  refine ve_oe (oe_lst 0 ae_nil)
  refine vss_one ?_
  refine vs_setV (i := 3) sc_law_parts.nd rfl (by first | exact Or.inl rfl | exact Or.inr rfl) ?_
  refine ve_oe ?_
  refine oe_bin od_add (se_ve (ve_var 3)) ?_
  refine se_oe ?_
  refine oe_lst 1 ?_
  refine ae_v ?_ ae_nil
  refine ve_tup 4 ?_
  refine ae_v (ve_var 8) ?_
  refine ae_v ?_ ?_
  refine ve_ix (se_var 5) (se_ve ve_int)
  refine ae_v ?_ ?_
  refine ve_ix (se_var 5) (se_ve ve_int)
  refine ae_v (ve_var 6) ae_nil
  refine vss_one ?_
  refine vs_if ?_ ?_ ?_
  refine ts_cmp (od_eq hr) (se_ve (ve_var 7)) (se_ve (ve_str [105, 110, 107])) (nomark _)
  refine vss_one ?_
  refine vs_setIx 5 (ve_var 8) ve_int
  refine vss_one ?_
  refine vs_if ?_ ?_ ?_
  refine ts_cmp (od_eq hr) (se_ve (ve_var 7)) (se_ve (ve_str [103, 114, 111, 117, 110, 100])) (nomark _)
  refine vss_one ?_
  refine vs_setIx 5 (ve_var 8) ve_int
  refine vss_one ?_
  refine vs_setO (i := 5) sc_law_parts.nd rfl (by first | exact Or.inl rfl | exact Or.inr rfl) ?_
  refine oe_lst 2 ?_
  refine ae_v (ve_str [46]) ?_
  refine ae_v (ve_str [46]) ae_nil
  refine vss_cons ?_ ?_
  refine vs_if ?_ ?_ vss_nil
  refine ts_cmp (od_eq hr) (se_ve (ve_var 7)) (se_ve (ve_str [97, 110, 101, 119])) (nomark _)
  refine vss_one (vs_setV (i := 4) sc_law_parts.nd rfl (by first | exact Or.inl rfl | exact Or.inr rfl) ve_bl)
  refine vss_one ?_
  refine vs_if ?_ ?_ vss_nil
  refine ts_cmp (od_eq hr) (se_ve (ve_var 7)) (se_ve (ve_str [101, 110, 100])) (nomark _)
  refine vss_cons ?_ ?_
  refine vs_append 2 ?_
  refine ve_tup 2 ?_
  refine ae_v (ve_var 3) ?_
  refine ae_v (ve_str [119, 104, 111, 108, 101]) ae_nil
  refine vss_cons ?_ ?_
  refine vs_setV (i := 3) sc_law_parts.nd rfl (by first | exact Or.inl rfl | exact Or.inr rfl) ?_
  refine ve_oe (oe_lst 0 ae_nil)
  refine vss_one (vs_setV (i := 4) sc_law_parts.nd rfl (by first | exact Or.inl rfl | exact Or.inr rfl) ve_bl)
  refine vss_one ?_
  refine vs_frz 2 rfl ?_
  refine vs_retV ?_
  refine ve_tup 2 ?_
  refine ae_v (ve_var 2) ?_
  refine ae_v (ve_var 3) ae_nil
abbrev s_law_whole : Stmt := top 38
theorem sc_law_whole : FnScope ["_law_found"] ["_law_found"] (defScope s_law_whole) := ⟨rfl, rfl, rfl, by decide +kernel, rfl, by decide +kernel, by decide +kernel⟩
def b_law_whole : MS :=
    (msRet (mAndV (mIsi "int" (mVar 0)) (mNotV (mIsi "bool" (mVar 0)))))
def c_law_whole : List D → Store → Res D := mFun 1 b_law_whole
theorem ok_law_whole {Pr : Program} {w : World} {K : Frag} {mg : Str → Option Value} {base : Heap} (D_law_whole : Def K mg "_law_whole" s_law_whole)
    (B : Blt mg) :
    Can Pr w K mg base "_law_whole" ["_law_found"] 1 (vSp K mg [.s] (rV K) c_law_whole) := by
  refine vdef (k := 0) (b := b_law_whole) D_law_whole sc_law_whole (fun _ _ _ _ _ _ => bndS fun _ => bnd0 rfl) [.s] [] rV_ok (fun _ _ _ _ => Rp.non) (body := fun f cdv A outer s H E hr P => ?_)
  refine vss_one ?_
  refine vs_retV ?_
  refine ve_and ?_ ?_
  refine ve_oe (oe_isi "int" (hb := bt_int) B.isinstance_ B.int_ (se_var 0))
  refine ve_one ?_
  refine ve_not ?_
  refine ve_oe (oe_isi "bool" (hb := bt_bool) B.isinstance_ B.bool_ (se_var 0))
abbrev s_law_letters_right : Stmt := top 39
theorem sc_law_letters_right : FnScope ["_law_found", "_law_due", "_law_letter"] ["_law_found", "_law_due"] (defScope s_law_letters_right) := ⟨rfl, rfl, rfl, by decide +kernel, rfl, by decide +kernel, by decide +kernel⟩
def b_law_letters_right : MS :=
    (msSeq (msIf (mtOr (mtNot (mTru (mIsi "list" (mVar 0)))) (mTest (mBin gNe (mCallB gLen (maCons (mVar 0) maNil)) (mCallB gLen (maCons (mVar 1) maNil))))) (msRet (mC (.bl false))) msNil)
    (msSeq (msForD (mVar 0) (mgN 2) (msSeq (msIf (mtOr (mtNot (mTru (mIsi "tuple" (mVar 2)))) (mtOr (mTest (mBin gNe (mCallB gLen (maCons (mVar 2) maNil)) (mC (.int 4)))) (mtNot (mTru (mCall c_law_whole (maCons (mBin gIx (mVar 2) (mC (.int 3))) maNil)))))) (msRet (mC (.bl false))) msNil)
    (msIf (mTest (mBin gNe (mComp (mIter (mSl (mVar 2) moN (moS (mC (.int 3))))) 1 [] (mgN 0) mYes (mIsi "str" (mVar 0))) (mLst (maCons (mC (.bl true)) (maCons (mC (.bl true)) (maCons (mC (.bl true)) maNil)))))) (msRet (mC (.bl false))) msNil)))
    (msRet (mBin gEq (mVar 0) (mVar 1)))))
def c_law_letters_right : List D → Store → Res D := mFun 3 b_law_letters_right
theorem ok_law_letters_right {Pr : Program} {w : World} {K : Frag} {mg : Str → Option Value} {base : Heap} (D_law_letters_right : Def K mg "_law_letters_right" s_law_letters_right)
    (B : Blt mg)
    (C_law_whole : Can Pr w K mg base "_law_whole" ["_law_found"] 1 (vSp K mg [.s] (rV K) c_law_whole)) :
    Can Pr w K mg base "_law_letters_right" ["_law_found", "_law_due"] 2 (vSp K mg [.s, .s] (rV K) c_law_letters_right) := by
  refine vdef (k := 1) (b := b_law_letters_right) D_law_letters_right sc_law_letters_right (fun _ _ _ _ _ _ => bndS fun _ => bndS fun _ => bnd0 rfl) [.s, .s] [.v] rV_ok (fun _ _ _ _ => Rp.non) (body := fun f cdv A outer s H E hr P => ?_)
  refine vss_cons ?_ ?_
  refine vs_if ?_ ?_ vss_nil
  refine ts_w ?_
  refine tw_or ?_ ?_
  refine ts_not ?_
  refine ts_val ?_
  refine se_oe (oe_isi "list" (hb := bt_list) B.isinstance_ B.list_ (se_var 0))
  refine tw_or1 ?_
  refine ts_cmp (od_ne hr) ?_ ?_ (nomark _)
  refine se_oe ?_
  refine oe_callB (ms := [.s]) (hv := bb_len) cd_len B.len_ ?_
  refine ae_s (se_var 0) ae_nil
  refine se_oe ?_
  refine oe_callB (ms := [.s]) (hv := bb_len) cd_len B.len_ ?_
  refine ae_s (se_var 1) ae_nil
  refine vss_one (vs_retV ve_bl)
  refine vss_cons ?_ ?_
  refine vs_forD rfl (we_var 0) (vg_name (i := 2) sc_law_letters_right.nd rfl (by first | exact Or.inl rfl | exact Or.inr rfl)) ?_
  refine vss_cons ?_ ?_
  refine vs_if ?_ ?_ vss_nil
  refine ts_w ?_
  refine tw_or ?_ ?_
  refine ts_not ?_
  refine ts_val ?_
  refine se_oe ?_
  refine oe_isi "tuple" (hb := bt_tuple) B.isinstance_ B.tuple_ (se_ve (ve_var 2))
  refine tw_or ?_ ?_
  refine ts_cmp (od_ne hr) ?_ (se_ve ve_int) (nomark _)
  refine se_oe ?_
  refine oe_callB (ms := [.s]) (hv := bb_len) cd_len B.len_ ?_
  refine ae_s (se_ve (ve_var 2)) ae_nil
  refine tw_or1 ?_
  refine ts_not ?_
  refine ts_val ?_
  refine se_ve ?_
  refine ve_call C_law_whole (hr.mono (by decide)) ?_
  refine ae_s ?_ ae_nil
  refine se_ve ?_
  refine ve_ix (se_ve (ve_var 2)) (se_ve ve_int)
  refine vss_one (vs_retV ve_bl)
  refine vss_one ?_
  refine vs_if ?_ ?_ vss_nil
  refine ts_cmp (od_ne hr) ?_ ?_ (nomark _)
  refine se_oe ?_
  refine oe_comp (defScope s_law_letters_right) ["_law_found", "_law_due", "_law_letter"] ["_law_thing"] [] rfl ?_ (fun _ _ _ _ P => ?_) (fun _ _ _ _ P => ?_) (fun _ _ _ _ P => ?_)
  refine vic_any ?_
  refine se_oe ?_
  refine oe_slice (se_ve (ve_var 2)) vo_none (vo_some ve_int)
  exact vg_name (i := 0) (show (compN ["_law_found", "_law_due", "_law_letter"] ["_law_thing"] []).Nodup by decide +kernel) rfl (by first | exact Or.inl rfl | exact Or.inr rfl)
  exact vif_nil
  refine ve_oe ?_
  refine oe_isi "str" (hb := bt_str) B.isinstance_ B.str_ (se_ve (ve_var 0))
  refine se_oe ?_
  refine oe_lst 3 ?_
  refine ae_v ve_bl ?_
  refine ae_v ve_bl ?_
  refine ae_v ve_bl ae_nil
  refine vss_one (vs_retV ve_bl)
  refine vss_one ?_
  refine vs_retV ?_
  refine ve_oe ?_
  refine oe_cmp (od_eq hr) (se_var 0) (se_var 1) (nomark _)
abbrev s_law_parts_right : Stmt := top 40
theorem sc_law_parts_right : FnScope ["_law_found", "_law_due", "_law_part", "_law_other"] ["_law_found", "_law_due"] (defScope s_law_parts_right) := ⟨rfl, rfl, rfl, by decide +kernel, rfl, by decide +kernel, by decide +kernel⟩
def b_law_parts_right : MS :=
    (msSeq (msIf (mtOr (mtNot (mTru (mIsi "list" (mVar 0)))) (mTest (mBin gNe (mCallB gLen (maCons (mVar 0) maNil)) (mCallB gLen (maCons (mVar 1) maNil))))) (msRet (mC (.bl false))) msNil)
    (msSeq (msFor (mZip (mVar 0) (mVar 1)) (mgN' 2 (mgsCons (mgN 2) (mgsCons (mgN 3) mgsNil))) (msSeq (msIf (mtOr (mtNot (mTru (mIsi "tuple" (mVar 2)))) (mtOr (mTest (mBin gNe (mCallB gLen (maCons (mVar 2) maNil)) (mC (.int 2)))) (mTest (mBin gNe (mBin gIx (mVar 2) (mC (.int 1))) (mBin gIx (mVar 3) (mC (.int 1))))))) (msRet (mC (.bl false))) msNil)
    (msIf (mtNot (mTru (mCall c_law_letters_right (maCons (mBin gIx (mVar 2) (mC (.int 0))) (maCons (mBin gIx (mVar 3) (mC (.int 0))) maNil))))) (msRet (mC (.bl false))) msNil)))
    (msRet (mC (.bl true)))))
def c_law_parts_right : List D → Store → Res D := mFun 4 b_law_parts_right
theorem ok_law_parts_right {Pr : Program} {w : World} {K : Frag} {mg : Str → Option Value} {base : Heap} (D_law_parts_right : Def K mg "_law_parts_right" s_law_parts_right)
    (B : Blt mg)
    (C_law_letters_right : Can Pr w K mg base "_law_letters_right" ["_law_found", "_law_due"] 2 (vSp K mg [.s, .s] (rV K) c_law_letters_right)) :
    Can Pr w K mg base "_law_parts_right" ["_law_found", "_law_due"] 3 (vSp K mg [.s, .s] (rV K) c_law_parts_right) := by
  refine vdef (k := 2) (b := b_law_parts_right) D_law_parts_right sc_law_parts_right (fun _ _ _ _ _ _ => bndS fun _ => bndS fun _ => bnd0 rfl) [.s, .s] [.v, .v] rV_ok (fun _ _ _ _ => Rp.non) (body := fun f cdv A outer s H E hr P => ?_)
  refine vss_cons ?_ ?_
  refine vs_if ?_ ?_ vss_nil
  refine ts_w ?_
  refine tw_or ?_ ?_
  refine ts_not ?_
  refine ts_val ?_
  refine se_oe (oe_isi "list" (hb := bt_list) B.isinstance_ B.list_ (se_var 0))
  refine tw_or1 ?_
  refine ts_cmp (od_ne hr) ?_ ?_ (nomark _)
  refine se_oe ?_
  refine oe_callB (ms := [.s]) (hv := bb_len) cd_len B.len_ ?_
  refine ae_s (se_var 0) ae_nil
  refine se_oe ?_
  refine oe_callB (ms := [.s]) (hv := bb_len) cd_len B.len_ ?_
  refine ae_s (se_var 1) ae_nil
  refine vss_one (vs_retV ve_bl)
  refine vss_cons ?_ ?_
  refine vs_for rfl ?_ ?_ ?_
  refine vi_zip B.zip_ (we_var 0) (we_var 1)
  refine vg_tup 2 rfl ?_
  refine vgs_cons (vg_name (i := 2) sc_law_parts_right.nd rfl (by first | exact Or.inl rfl | exact Or.inr rfl)) ?_
  refine vgs_cons (vg_name (i := 3) sc_law_parts_right.nd rfl (by first | exact Or.inl rfl | exact Or.inr rfl)) vgs_nil
  refine vss_cons ?_ ?_
  refine vs_if ?_ ?_ vss_nil
  refine ts_w ?_
  refine tw_or ?_ ?_
  refine ts_not ?_
  refine ts_val ?_
  refine se_oe ?_
  refine oe_isi "tuple" (hb := bt_tuple) B.isinstance_ B.tuple_ (se_ve (ve_var 2))
  refine tw_or ?_ ?_
  refine ts_cmp (od_ne hr) ?_ (se_ve ve_int) (nomark _)
  refine se_oe ?_
  refine oe_callB (ms := [.s]) (hv := bb_len) cd_len B.len_ ?_
  refine ae_s (se_ve (ve_var 2)) ae_nil
  refine tw_or1 ?_
  refine ts_cmp (od_ne hr) ?_ ?_ (nomark _)
  refine se_ve ?_
  refine ve_ix (se_ve (ve_var 2)) (se_ve ve_int)
  refine se_ve ?_
  refine ve_ix (se_ve (ve_var 3)) (se_ve ve_int)
  refine vss_one (vs_retV ve_bl)
  refine vss_one ?_
  refine vs_if ?_ ?_ vss_nil
  refine ts_not ?_
  refine ts_val ?_
  refine se_ve ?_
  refine ve_call C_law_letters_right (hr.mono (by decide)) ?_
  refine ae_s ?_ ?_
  refine se_ve ?_
  refine ve_ix (se_ve (ve_var 2)) (se_ve ve_int)
  refine ae_s ?_ ae_nil
  refine se_ve ?_
  refine ve_ix (se_ve (ve_var 3)) (se_ve ve_int)
  refine vss_one (vs_retV ve_bl)
  refine vss_one (vs_retV ve_bl)
abbrev s_law_piece : Stmt := top 41
theorem sc_law_piece : FnScope ["_law_cell_here", "_law_anew", "_law_colour", "_law_way"] ["_law_cell_here", "_law_anew"] (defScope s_law_piece) := ⟨rfl, rfl, rfl, by decide +kernel, rfl, by decide +kernel, by decide +kernel⟩
def b_law_piece : MS :=
    (msSeq (msSet 2 (mBin gIx (mC (.str [97, 98, 99, 100, 101, 102, 103, 104, 46])) (mBin gMod (mCall c_law_mix (maCons (mVar 0) (maCons (mC (.int 1)) maNil))) (mC (.int 9)))))
    (msSeq (msSet 3 (mBin gMod (mCall c_law_mix (maCons (mVar 0) (maCons (mC (.int 0)) maNil))) (mC (.int 8))))
    (msSeq (msIf (mTest (mBin gEq (mVar 3) (mC (.int 0)))) (msRet (mC (.str [10]))) msNil)
    (msSeq (msIf (mtAnd (mTest (mBin gEq (mVar 3) (mC (.int 1)))) (mTru (mVar 1))) (msRet (mC (.str [9]))) msNil)
    (msSeq (msIf (mTest (mBin gEq (mVar 3) (mC (.int 2)))) (msRet (mBin gIx (mLst (maCons (mBin gAdd (mBin gAdd (mC (.str [91])) (mVar 2)) (mC (.str [93]))) (maCons (mBin gAdd (mBin gAdd (mC (.str [91, 47])) (mVar 2)) (mC (.str [93]))) (maCons (mC (.str [91, 93])) maNil)))) (mBin gMod (mCall c_law_mix (maCons (mVar 0) (maCons (mC (.int 3)) maNil))) (mC (.int 3))))) msNil)
    (msRet (mSl (mC (.str [119, 101, 32, 97, 118, 101, 32, 111, 117, 84])) moN (moS (mBin gAdd (mC (.int 1)) (mBin gMod (mCall c_law_mix (maCons (mVar 0) (maCons (mC (.int 4)) maNil))) (mC (.int 9))))))))))))
def c_law_piece : List D → Store → Res D := mFun 4 b_law_piece
theorem ok_law_piece {Pr : Program} {w : World} {K : Frag} {mg : Str → Option Value} {base : Heap} (D_law_piece : Def K mg "_law_piece" s_law_piece)
    (B : Blt mg)
    (C_law_mix : Can Pr w K mg base "_law_mix" ["_law_cell_here", "_law_k"] 1 (vSp K mg [.s, .s] (rV K) c_law_mix)) :
    Can Pr w K mg base "_law_piece" ["_law_cell_here", "_law_anew"] 2 (vSp K mg [.s, .s] (rV K) c_law_piece) := by
  refine vdef (k := 1) (b := b_law_piece) D_law_piece sc_law_piece (fun _ _ _ _ _ _ => bndS fun _ => bndS fun _ => bnd0 rfl) [.s, .s] [.v, .v] rV_ok (fun _ _ _ _ => Rp.non) (body := fun f cdv A outer s H E hr P => ?_)
  refine vss_cons ?_ ?_
  refine vs_setV (i := 2) sc_law_piece.nd rfl (by first | exact Or.inl rfl | exact Or.inr rfl) ?_
  refine ve_ix (se_ve (ve_str [97, 98, 99, 100, 101, 102, 103, 104, 46])) ?_
  refine se_oe ?_
  refine oe_bin od_mod ?_ (se_ve ve_int)
  refine se_ve ?_
  refine ve_call C_law_mix (hr.mono (by decide)) ?_
  refine ae_s (se_var 0) ?_
  refine ae_s (se_ve ve_int) ae_nil
  refine vss_cons ?_ ?_
  refine vs_setV (i := 3) sc_law_piece.nd rfl (by first | exact Or.inl rfl | exact Or.inr rfl) ?_
  refine ve_oe ?_
  refine oe_bin od_mod ?_ (se_ve ve_int)
  refine se_ve ?_
  refine ve_call C_law_mix (hr.mono (by decide)) ?_
  refine ae_s (se_var 0) ?_
  refine ae_s (se_ve ve_int) ae_nil
  refine vss_cons ?_ ?_
  refine vs_if ?_ ?_ vss_nil
  refine ts_cmp (od_eq hr) (se_ve (ve_var 3)) (se_ve ve_int) (nomark _)
  refine vss_one (vs_retV (ve_str [10]))
  refine vss_cons ?_ ?_
  refine vs_if ?_ ?_ vss_nil
  refine ts_w ?_
  refine tw_and ?_ ?_
  refine ts_cmp (od_eq hr) (se_ve (ve_var 3)) (se_ve ve_int) (nomark _)
  refine tw_and1 (ts_val (se_var 1))
  refine vss_one (vs_retV (ve_str [9]))
  refine vss_cons ?_ ?_
  refine vs_if ?_ ?_ vss_nil
  refine ts_cmp (od_eq hr) (se_ve (ve_var 3)) (se_ve ve_int) (nomark _)
  refine vss_one ?_
  refine vs_retV ?_
  refine ve_ix ?_ ?_
  refine se_oe ?_
  refine oe_lst 3 ?_
  refine ae_v ?_ ?_
  refine ve_oe ?_
  refine oe_bin od_add ?_ (se_ve (ve_str [93]))
  refine se_oe ?_
  refine oe_bin od_add (se_ve (ve_str [91])) (se_ve (ve_var 2))
  refine ae_v ?_ ?_
  refine ve_oe ?_
  refine oe_bin od_add ?_ (se_ve (ve_str [93]))
  refine se_oe ?_
  refine oe_bin od_add (se_ve (ve_str [91, 47])) (se_ve (ve_var 2))
  refine ae_v (ve_str [91, 93]) ae_nil
  refine se_oe ?_
  refine oe_bin od_mod ?_ (se_ve ve_int)
  refine se_ve ?_
  refine ve_call C_law_mix (hr.mono (by decide)) ?_
  refine ae_s (se_var 0) ?_
  refine ae_s (se_ve ve_int) ae_nil
  refine vss_one ?_
  refine vs_retV ?_
  refine ve_oe ?_
  refine oe_slice (se_ve (ve_str [119, 101, 32, 97, 118, 101, 32, 111, 117, 84])) vo_none ?_
  refine vo_some ?_
  refine ve_oe ?_
  refine oe_bin od_add (se_ve ve_int) ?_
  refine se_oe ?_
  refine oe_bin od_mod ?_ (se_ve ve_int)
  refine se_ve ?_
  refine ve_call C_law_mix (hr.mono (by decide)) ?_
  refine ae_s (se_var 0) ?_
  refine ae_s (se_ve ve_int) ae_nil
abbrev s_law_joined : Stmt := top 42
theorem sc_law_joined : FnScope ["_law_parts_here", "_law_row", "_law_rows", "_law_letters", "_law_word"] ["_law_parts_here", "_law_row"] (defScope s_law_joined) := ⟨rfl, rfl, rfl, by decide +kernel, rfl, by decide +kernel, by decide +kernel⟩
def b_law_joined : MS :=
    (msSeq (msSet 2 (mLst (maCons (mLst maNil) maNil)))
    (msSeq (msFor (mIter (mVar 0)) (mgN' 2 (mgsCons (mgN 3) (mgsCons (mgN 4) mgsNil))) (msSeq (msSetIx 2 (mUn gNeg (mC (.int 1))) (mBin gAdd (mBin gIx (mVar 2) (mUn gNeg (mC (.int 1)))) (mVar 3)))
    (msIf (mTest (mBin gEq (mVar 4) (mC (.str [119, 104, 111, 108, 101])))) (msApp 2 (mLst maNil)) msNil)))
    (msSeq (msSetIx 2 (mUn gNeg (mC (.int 1))) (mBin gAdd (mBin gIx (mVar 2) (mUn gNeg (mC (.int 1)))) (mVar 1)))
    (msRet (mVar 2)))))
def c_law_joined : List D → Store → Res D := mFun 5 b_law_joined
theorem ok_law_joined {Pr : Program} {w : World} {K : Frag} {mg : Str → Option Value} {base : Heap} (D_law_joined : Def K mg "_law_joined" s_law_joined)
    (B : Blt mg) :
    Can Pr w K mg base "_law_joined" ["_law_parts_here", "_law_row"] 1 (vSp K mg [.s, .s] (rO K) c_law_joined) := by
  refine vdef (k := 0) (b := b_law_joined) D_law_joined sc_law_joined (fun _ _ _ _ _ _ => bndS fun _ => bndS fun _ => bnd0 rfl) [.s, .s] [.o, .v, .v] rO_ok (fun _ _ _ _ => .inl ⟨rfl, Rp.non⟩) (body := fun f cdv A outer s H E hr P => ?_)
  refine vss_cons ?_ ?_
  refine vs_setO (i := 2) sc_law_joined.nd rfl (by first | exact Or.inl rfl | exact Or.inr rfl) ?_
  refine oe_lst 1 ?_
  refine ae_v ?_ ae_nil
  refine ve_oe (oe_lst 0 ae_nil)
  refine vss_cons ?_ ?_
  refine vs_for rfl (vi_any (we_var 0)) ?_ ?_
  refine vg_tup 2 rfl ?_
  refine vgs_cons (vg_name (i := 3) sc_law_joined.nd rfl (by first | exact Or.inl rfl | exact Or.inr rfl)) ?_
  refine vgs_cons (vg_name (i := 4) sc_law_joined.nd rfl (by first | exact Or.inl rfl | exact Or.inr rfl)) vgs_nil
  refine vss_cons ?_ ?_
  refine vs_setIx 2 ?_ ?_
  refine ve_oe ?_
  refine oe_bin od_add ?_ (se_ve (ve_var 3))
  refine se_ve ?_
  refine ve_ix (se_var 2) ?_
  refine se_oe ?_
  refine oe_neg (se_ve ve_int)
  refine ve_oe ?_
  refine oe_neg (se_ve ve_int)
  refine vss_one ?_
  refine vs_if ?_ ?_ vss_nil
  refine ts_cmp (od_eq hr) (se_ve (ve_var 4)) (se_ve (ve_str [119, 104, 111, 108, 101])) (nomark _)
  refine vss_one ?_
  refine vs_append 2 ?_
  refine ve_oe (oe_lst 0 ae_nil)
  refine vss_cons ?_ (vss_one (vs_retX 2))
  refine vs_setIx 2 ?_ ?_
  refine ve_oe ?_
  refine oe_bin od_add ?_ (se_var 1)
  refine se_ve ?_
  refine ve_ix (se_var 2) ?_
  refine se_oe ?_
  refine oe_neg (se_ve ve_int)
  refine ve_oe ?_
  refine oe_neg (se_ve ve_int)
abbrev s_law : Stmt := top 43
theorem sc_law : FnScope ["_law_script", "_law_cell_here", "_law_most", "_law_anew", "_law_text", "_law_due", "_law_found", "_law_letters", "_law_word", "_law_whole_here"] ["_law_script"] (defScope s_law) := ⟨rfl, rfl, rfl, by decide +kernel, rfl, by decide +kernel, by decide +kernel⟩
def b_law : MS :=
    (msSeq (msSet 1 (mCall c_law_cell (maCons (mVar 0) (maCons (mC (.int 0)) maNil))))
    (msSeq (msSet 2 (mBin gIx (mLst (maCons (mC (.int 1)) (maCons (mC (.int 2)) (maCons (mC (.int 3)) (maCons (mC (.int 4)) (maCons (mC (.int 5)) (maCons (mC (.int 6)) (maCons (mC (.int 7)) (maCons (mC (.int 8)) (maCons (mC (.int 9)) (maCons (mC (.int 199)) (maCons (mC (.int 200)) maNil)))))))))))) (mBin gMod (mCall c_law_mix (maCons (mVar 1) (maCons (mC (.int 8)) maNil))) (mC (.int 11)))))
    (msSeq (msSet 3 (mBin gEq (mBin gMod (mCall c_law_mix (maCons (mVar 1) (maCons (mC (.int 9)) maNil))) (mC (.int 2))) (mC (.int 0))))
    (msSeq (msSet 4 (mJoin (mComp (mIter (mSl (mVar 0) (moS (mC (.int 1))) (moS (mC (.int 41))))) 1 [3] (mgN 0) mYes (mCall c_law_piece (maCons (mVar 0) (maCons (mVar 1) maNil))))))
    (msSeq (msIf (mTest (mBin gEq (mBin gMod (mCall c_law_mix (maCons (mVar 1) (maCons (mC (.int 10)) maNil))) (mC (.int 5))) (mC (.int 0)))) (msSet 4 (mBin gAdd (mBin gAdd (mVar 4) (mBin gMul (mC (.str [108, 111, 110, 103, 32, 114, 111, 119, 32])) (mC (.int 25)))) (mSl (mC (.str [108, 97, 115, 116, 108, 121])) moN (moS (mBin gMod (mCall c_law_mix (maCons (mVar 1) (maCons (mC (.int 11)) maNil))) (mC (.int 6))))))) msNil)
    (msSeq (msSet 5 (mCall c_law_parts (maCons (mCall c_law_items (maCons (mVar 4) maNil)) (maCons (mVar 2) maNil))))
    (msSeq (msSet 6 (mCall c_rows_of (maCons (mVar 4) (maCons (mVar 2) maNil))))
    (msSeq (msIf (mtOr (mtNot (mTru (mCall c_law_parts_right (maCons (mBin gIx (mVar 6) (mC (.int 0))) (maCons (mBin gIx (mVar 5) (mC (.int 0))) maNil))))) (mtNot (mTru (mCall c_law_letters_right (maCons (mBin gIx (mVar 6) (mC (.int 1))) (maCons (mBin gIx (mVar 5) (mC (.int 1))) maNil)))))) (msRet (mC (.bl false))) msNil)
    (msSeq (msFor (mIter (mBin gIx (mVar 6) (mC (.int 0)))) (mgN' 2 (mgsCons (mgN 7) (mgsCons (mgN 8) mgsNil))) (msIf (mtOr (mTest (mBin gGt (mCallB gLen (maCons (mVar 7) maNil)) (mVar 2))) (mtAnd (mTest (mBin gEq (mVar 8) (mC (.str [109, 111, 114, 101])))) (mTest (mBin gNe (mCallB gLen (maCons (mVar 7) maNil)) (mVar 2))))) (msRet (mC (.bl false))) msNil))
    (msSeq (msIf (mtOr (mTru (mVar 3)) (mTest (mBin gGt (mCallB gLen (maCons (mCallB gMaxK (maCons (mSplit (mVar 4) (mC (.str [10]))) maNil)) maNil)) (mC (.int 200))))) (msRet (mC (.bl true))) msNil)
    (msSeq (msSet 9 (mCall c_rows_of (maCons (mVar 4) (maCons (mC (.int 200)) maNil))))
    (msRet (mBin gEq (mCall c_law_joined (maCons (mBin gIx (mVar 6) (mC (.int 0))) (maCons (mBin gIx (mVar 6) (mC (.int 1))) maNil))) (mCall c_law_joined (maCons (mBin gIx (mVar 9) (mC (.int 0))) (maCons (mBin gIx (mVar 9) (mC (.int 1))) maNil))))))))))))))))
def c_law : List D → Store → Res D := mFun 10 b_law
theorem ok_law {Pr : Program} {w : World} {K : Frag} {mg : Str → Option Value} {base : Heap} (D_law : Def K mg "law" s_law)
    (B : Blt mg)
    (C_law_cell : Can Pr w K mg base "_law_cell" ["_law_script", "_law_k"] 1 (vSp K mg [.s, .s] (rV K) c_law_cell))
    (C_law_mix : Can Pr w K mg base "_law_mix" ["_law_cell_here", "_law_k"] 1 (vSp K mg [.s, .s] (rV K) c_law_mix))
    (C_law_piece : Can Pr w K mg base "_law_piece" ["_law_cell_here", "_law_anew"] 2 (vSp K mg [.s, .s] (rV K) c_law_piece))
    (C_law_parts : Can Pr w K mg base "_law_parts" ["_law_items_here", "_law_most"] 1 (vSp K mg [.s, .s] (rV K) c_law_parts))
    (C_law_items : Can Pr w K mg base "_law_items" ["_law_text"] 2 (vSp K mg [.s] (rO K) c_law_items))
    (C_rows_of : Can Pr w K mg base "rows_of" ["text", "most"] 6 (vSp K mg [.s, .s] (rV K) c_rows_of))
    (C_law_parts_right : Can Pr w K mg base "_law_parts_right" ["_law_found", "_law_due"] 3 (vSp K mg [.s, .s] (rV K) c_law_parts_right))
    (C_law_letters_right : Can Pr w K mg base "_law_letters_right" ["_law_found", "_law_due"] 2 (vSp K mg [.s, .s] (rV K) c_law_letters_right))
    (C_law_joined : Can Pr w K mg base "_law_joined" ["_law_parts_here", "_law_row"] 1 (vSp K mg [.s, .s] (rO K) c_law_joined)) :
    Can Pr w K mg base "law" ["_law_script"] 7 (vSp K mg [.s] (rV K) c_law) := by
  refine vdef (k := 6) (b := b_law) D_law sc_law (fun _ _ _ _ _ _ => bndS fun _ => bnd0 rfl) [.s] [.v, .v, .v, .v, .v, .v, .v, .v, .v] rV_ok (fun _ _ _ _ => Rp.non) (body := fun f cdv A outer s H E hr P => ?_)
  refine vss_cons ?_ ?_
  refine vs_setV (i := 1) sc_law.nd rfl (by first | exact Or.inl rfl | exact Or.inr rfl) ?_
  refine ve_call C_law_cell (hr.mono (by decide)) ?_
  refine ae_s (se_var 0) ?_
  refine ae_s (se_ve ve_int) ae_nil
  refine vss_cons ?_ ?_
  refine vs_setV (i := 2) sc_law.nd rfl (by first | exact Or.inl rfl | exact Or.inr rfl) ?_
  refine ve_ix ?_ ?_
  refine se_oe ?_
  refine oe_lst 11 ?_
  refine ae_v ve_int ?_
  refine ae_v ve_int ?_
  refine ae_v ve_int ?_
  refine ae_v ve_int ?_
  refine ae_v ve_int ?_
  refine ae_v ve_int ?_
  refine ae_v ve_int ?_
  refine ae_v ve_int ?_
  refine ae_v ve_int ?_
  refine ae_v ve_int ?_
  refine ae_v ve_int ae_nil
  refine se_oe ?_
  refine oe_bin od_mod ?_ (se_ve ve_int)
  refine se_ve ?_
  refine ve_call C_law_mix (hr.mono (by decide)) ?_
  refine ae_s (se_ve (ve_var 1)) ?_
  refine ae_s (se_ve ve_int) ae_nil
  refine vss_cons ?_ ?_
  refine vs_setV (i := 3) sc_law.nd rfl (by first | exact Or.inl rfl | exact Or.inr rfl) ?_
  refine ve_oe ?_
  refine oe_cmp (od_eq hr) ?_ (se_ve ve_int) (nomark _)
  refine se_oe ?_
  refine oe_bin od_mod ?_ (se_ve ve_int)
  refine se_ve ?_
  refine ve_call C_law_mix (hr.mono (by decide)) ?_
  refine ae_s (se_ve (ve_var 1)) ?_
  refine ae_s (se_ve ve_int) ae_nil
  refine vss_cons ?_ ?_
  refine vs_setV (i := 4) sc_law.nd rfl (by first | exact Or.inl rfl | exact Or.inr rfl) ?_
  refine ve_oe ?_
  refine oe_join ?_
  refine se_oe ?_
  refine oe_comp (defScope s_law) ["_law_script", "_law_cell_here", "_law_most", "_law_anew", "_law_text", "_law_due", "_law_found", "_law_letters", "_law_word", "_law_whole_here"] ["_law_one"] [3] rfl ?_ (fun _ _ _ _ P => ?_) (fun _ _ _ _ P => ?_) (fun _ _ _ _ P => ?_)
  refine vic_any ?_
  refine se_oe ?_
  refine oe_slice (se_var 0) (vo_some ve_int) (vo_some ve_int)
  exact vg_name (i := 0) (show (compN ["_law_script", "_law_cell_here", "_law_most", "_law_anew", "_law_text", "_law_due", "_law_found", "_law_letters", "_law_word", "_law_whole_here"] ["_law_one"] [3]).Nodup by decide +kernel) rfl (by first | exact Or.inl rfl | exact Or.inr rfl)
  exact vif_nil
  refine ve_call C_law_piece (hr.mono (by decide)) ?_
  refine ae_s (se_ve (ve_var 0)) ?_
  refine ae_s (se_ve (ve_var 1)) ae_nil
  refine vss_cons ?_ ?_
  refine vs_if ?_ ?_ vss_nil
  refine ts_cmp (od_eq hr) ?_ (se_ve ve_int) (nomark _)
  refine se_oe ?_
  refine oe_bin od_mod ?_ (se_ve ve_int)
  refine se_ve ?_
  refine ve_call C_law_mix (hr.mono (by decide)) ?_
  refine ae_s (se_ve (ve_var 1)) ?_
  refine ae_s (se_ve ve_int) ae_nil
  refine vss_one ?_
  refine vs_setV (i := 4) sc_law.nd rfl (by first | exact Or.inl rfl | exact Or.inr rfl) ?_
  refine ve_oe ?_
  refine oe_bin od_add ?_ ?_
  refine se_oe ?_
  refine oe_bin od_add (se_ve (ve_var 4)) ?_
  refine se_oe ?_
  refine oe_bin od_mul (se_ve (ve_str [108, 111, 110, 103, 32, 114, 111, 119, 32])) (se_ve ve_int)
  refine se_oe ?_
  refine oe_slice (se_ve (ve_str [108, 97, 115, 116, 108, 121])) vo_none ?_
  refine vo_some ?_
  refine ve_oe ?_
  refine oe_bin od_mod ?_ (se_ve ve_int)
  refine se_ve ?_
  refine ve_call C_law_mix (hr.mono (by decide)) ?_
  refine ae_s (se_ve (ve_var 1)) ?_
  refine ae_s (se_ve ve_int) ae_nil
  refine vss_cons ?_ ?_
  refine vs_setV (i := 5) sc_law.nd rfl (by first | exact Or.inl rfl | exact Or.inr rfl) ?_
  refine ve_call C_law_parts (hr.mono (by decide)) ?_
  refine ae_s ?_ ?_
  refine se_oe ?_
  refine oe_call C_law_items (hr.mono (by decide)) ?_
  refine ae_s (se_ve (ve_var 4)) ae_nil
  refine ae_s (se_ve (ve_var 2)) ae_nil
  refine vss_cons ?_ ?_
  refine vs_setV (i := 6) sc_law.nd rfl (by first | exact Or.inl rfl | exact Or.inr rfl) ?_
  refine ve_call C_rows_of (hr.mono (by decide)) ?_
  refine ae_s (se_ve (ve_var 4)) ?_
  refine ae_s (se_ve (ve_var 2)) ae_nil
  refine vss_cons ?_ ?_
  refine vs_if ?_ ?_ vss_nil
  refine ts_w ?_
  refine tw_or ?_ ?_
  refine ts_not ?_
  refine ts_val ?_
  refine se_ve ?_
  refine ve_call C_law_parts_right (hr.mono (by decide)) ?_
  refine ae_s ?_ ?_
  refine se_ve ?_
  refine ve_ix (se_ve (ve_var 6)) (se_ve ve_int)
  refine ae_s ?_ ae_nil
  refine se_ve ?_
  refine ve_ix (se_ve (ve_var 5)) (se_ve ve_int)
  refine tw_or1 ?_
  refine ts_not ?_
  refine ts_val ?_
  refine se_ve ?_
  refine ve_call C_law_letters_right (hr.mono (by decide)) ?_
  refine ae_s ?_ ?_
  refine se_ve ?_
  refine ve_ix (se_ve (ve_var 6)) (se_ve ve_int)
  refine ae_s ?_ ae_nil
  refine se_ve ?_
  refine ve_ix (se_ve (ve_var 5)) (se_ve ve_int)
  refine vss_one (vs_retV ve_bl)
  refine vss_cons ?_ ?_
  refine vs_for rfl ?_ ?_ ?_
  refine vi_any ?_
  refine we_ve ?_
  refine ve_ix (se_ve (ve_var 6)) (se_ve ve_int)
  refine vg_tup 2 rfl ?_
  refine vgs_cons (vg_name (i := 7) sc_law.nd rfl (by first | exact Or.inl rfl | exact Or.inr rfl)) ?_
  refine vgs_cons (vg_name (i := 8) sc_law.nd rfl (by first | exact Or.inl rfl | exact Or.inr rfl)) vgs_nil
  refine vss_one ?_
  refine vs_if ?_ ?_ vss_nil
  refine ts_w ?_
  refine tw_or ?_ ?_
  refine ts_cmp od_gt ?_ (se_ve (ve_var 2)) (nomark _)
  refine se_oe ?_
  refine oe_callB (ms := [.s]) (hv := bb_len) cd_len B.len_ ?_
  refine ae_s (se_ve (ve_var 7)) ae_nil
  refine tw_or1 ?_
  refine ts_w ?_
  refine tw_and ?_ ?_
  refine ts_cmp (od_eq hr) (se_ve (ve_var 8)) (se_ve (ve_str [109, 111, 114, 101])) (nomark _)
  refine tw_and1 ?_
  refine ts_cmp (od_ne hr) ?_ (se_ve (ve_var 2)) (nomark _)
  refine se_oe ?_
  refine oe_callB (ms := [.s]) (hv := bb_len) cd_len B.len_ ?_
  refine ae_s (se_ve (ve_var 7)) ae_nil
  refine vss_one (vs_retV ve_bl)
  refine vss_cons ?_ ?_
  refine vs_if ?_ ?_ vss_nil
  refine ts_w ?_
  refine tw_or ?_ ?_
  refine ts_val (se_ve (ve_var 3))
  refine tw_or1 ?_
  refine ts_cmp od_gt ?_ (se_ve ve_int) (nomark _)
  refine se_oe ?_
  refine oe_callB (ms := [.s]) (hv := bb_len) cd_len B.len_ ?_
  refine ae_s ?_ ae_nil
  refine se_oe ?_
  refine oe_maxK rfl B.max_ B.len_ ?_
  refine se_oe ?_
  refine oe_split (ve_var 4) (ve_str [10])
  refine vss_one (vs_retV ve_bl)
  refine vss_cons ?_ ?_
  refine vs_setV (i := 9) sc_law.nd rfl (by first | exact Or.inl rfl | exact Or.inr rfl) ?_
  refine ve_call C_rows_of (hr.mono (by decide)) ?_
  refine ae_s (se_ve (ve_var 4)) ?_
  refine ae_s (se_ve ve_int) ae_nil
  refine vss_one ?_
  refine vs_retV ?_
  refine ve_oe ?_
  refine oe_cmp (od_eq hr) ?_ ?_ (nomark _)
  refine se_oe ?_
  refine oe_call C_law_joined (hr.mono (by decide)) ?_
  refine ae_s ?_ ?_
  refine se_ve ?_
  refine ve_ix (se_ve (ve_var 6)) (se_ve ve_int)
  refine ae_s ?_ ae_nil
  refine se_ve ?_
  refine ve_ix (se_ve (ve_var 6)) (se_ve ve_int)
  refine se_oe ?_
  refine oe_call C_law_joined (hr.mono (by decide)) ?_
  refine ae_s ?_ ?_
  refine se_ve ?_
  refine ve_ix (se_ve (ve_var 9)) (se_ve ve_int)
  refine ae_s ?_ ae_nil
  refine se_ve ?_
  refine ve_ix (se_ve (ve_var 9)) (se_ve ve_int)
structure Okt (t : List Nat) : Prop where
  len : t.length ≤ 5000
  ok : ∀ c ∈ t, (32 ≤ c ∧ c ≤ 125) ∨ c = 10 ∨ c = 9
theorem Okt.lt {t : List Nat} (h : Okt t) : ∀ c ∈ t, c < 128 := fun c hc => by
  have := h.ok c hc
  omega
theorem Okt.asc {t : List Nat} (h : Okt t) : ascii t = true := by
  unfold ascii
  rw [List.all_eq_true]
  intro c hc
  exact decide_eq_true (h.lt c hc)
@[simp] theorem ix1_0 {a : Nat} : gIx (.str [a]) (.int 0) = some (.str [a]) := rfl
@[simp] theorem ix2_0 {a b : Nat} : gIx (.str [a, b]) (.int 0) = some (.str [a]) := rfl
@[simp] theorem ix2_1 {a b : Nat} : gIx (.str [a, b]) (.int 1) = some (.str [b]) := rfl
@[simp] theorem ix3_0 {a b c : Nat} : gIx (.str [a, b, c]) (.int 0) = some (.str [a]) := rfl
@[simp] theorem ix3_1 {a b c : Nat} : gIx (.str [a, b, c]) (.int 1) = some (.str [b]) := rfl
@[simp] theorem ix3_2 {a b c : Nat} : gIx (.str [a, b, c]) (.int 2) = some (.str [c]) := rfl
@[simp] theorem ix4_0 {a b c d : Nat} : gIx (.str [a, b, c, d]) (.int 0) = some (.str [a]) := rfl
@[simp] theorem ix4_1 {a b c d : Nat} : gIx (.str [a, b, c, d]) (.int 1) = some (.str [b]) := rfl
@[simp] theorem ix4_2 {a b c d : Nat} : gIx (.str [a, b, c, d]) (.int 2) = some (.str [c]) := rfl
@[simp] theorem ix4_3 {a b c d : Nat} : gIx (.str [a, b, c, d]) (.int 3) = some (.str [d]) := rfl
@[simp] theorem it2_0 {a b : D} : gIx (.tup [a, b]) (.int 0) = some a := rfl
@[simp] theorem it2_1 {a b : D} : gIx (.tup [a, b]) (.int 1) = some b := rfl
@[simp] theorem it3_0 {a b c : D} : gIx (.tup [a, b, c]) (.int 0) = some a := rfl
@[simp] theorem it3_1 {a b c : D} : gIx (.tup [a, b, c]) (.int 1) = some b := rfl
@[simp] theorem it3_2 {a b c : D} : gIx (.tup [a, b, c]) (.int 2) = some c := rfl
theorem e_is_col (c : Nat) (O : Store) : c_is_colour [.str [c]] O = .ok (.bl (col c)) O := by
  simp [c_is_colour, b_is_colour, col]
theorem e_is_sign1 (c : Nat) (O : Store) : c_is_sign [.str [c]] O = .ok (.bl (decide (32 ≤ c ∧ c ≤ 125))) O := by
  simp [c_is_sign, b_is_sign]
  by_cases h : 32 ≤ c <;> simp [h]
theorem enum_sign {t : List Nat} {d : D} {i : Nat} (h : (enumD 0 (signsD t))[i]? = some d) : ∃ c, c ∈ t ∧ d = .tup [.int i, .str [c]] := by
  rw [enumD_get] at h
  unfold signsD at h
  rw [List.getElem?_map] at h
  cases q : t[i]? with
  | none => rw [q] at h; cases h
  | some c =>
    rw [q] at h
    simp at h
    exact ⟨c, List.mem_of_getElem? q, h.symm⟩
theorem e_checked (t : List Nat) (h : Okt t) (O : Store) : c_checked [.str t] O = .ok .non O := by
  obtain ⟨ρ1, O1, e1, rfl, o1, o2, rfl⟩ := floop_ind (g := mgN' 2 (mgsCons (mgN 1) (mgsCons (mgN 2) mgsNil)))
    (b := msIf (mtNot (mtOr (mTru (mCall c_is_sign (maCons (mVar 2) maNil))) (mtOr (mTest (mBin gEq (mVar 2) (mC (.str [10])))) (mTest (mBin gEq (mVar 2) (mC (.str [9]))))))) msNo msNil)
    (fun i ρ O' => O' = O ∧ ∃ o1 o2, ρ = [some (.str t), o1, o2]) (enumD 0 (signsD t)) 0 [some (.str t), none, none] O ⟨rfl, none, none, rfl⟩ (by
      rintro i d ρ O' hi ⟨rfl, o1, o2, rfl⟩
      obtain ⟨c, hc, rfl⟩ := enum_sign hi
      refine ⟨_, rfl, _, _, .inl ?_, rfl, some (.int i), some (.str [c]), rfl⟩
      have := h.ok c hc
      have e : (mtOr (mTru (mCall c_is_sign (maCons (mVar 2) maNil))) (mtOr (mTest (mBin gEq (mVar 2) (mC (.str [10])))) (mTest (mBin gEq (mVar 2) (mC (.str [9])))))) [some (.str t), some (.int i), some (.str [c])] O' = .ok true O' := by
        simp [e_is_sign1]
        omega
      show msIf (mtNot _) msNo msNil [some (.str t), some (.int i), some (.str [c])] O' = _
      simp only [ms_if, mt_not, e, bind_ok', ifF_ok, Bool.not_true, ms_nil]
      rfl)
  simp only [c_checked, b_checked, m_fun, List.map_cons, List.map_nil, List.length_cons, List.length_nil, List.replicate, List.cons_append, List.nil_append, ms_seq, ms_if, mt_not, m_tru, m_isi, m_var, List.getElem?_cons_zero, bind_ok', deref_str, tyD_str, isF_some, isTy_1, deref_bl, truD_bl, ofB_some, Bool.not_true, ifF_ok, ms_nil, Bool.false_eq_true, if_false, seqF_nx, ms_for, m_enum, enF_str h.asc, forF_ok]
  show funF (floop _ _ (enumD 0 (signsD t)) [some (.str t), none, none] _) = _
  rw [e1]
  rfl
def mkD : Option (List Nat × List Nat) → D
  | some (k, v) => .tup [.str k, .str v]
  | none => .non
theorem e_mark (s : List Nat) (h0 : 1 ≤ s.length) (h4 : s.length ≤ 4) (O : Store) : c_mark_of [.str s] O = .ok (mkD (markB s)) O := by
  match s, h0, h4 with
  | [a], _, _ => simp [c_mark_of, b_mark_of, markB, mkD]
  | [a, b], _, _ =>
    simp [c_mark_of, b_mark_of, markB]
    by_cases h1 : a = 91 ∧ b = 93
    · simp [h1, mkD, kPlain]
    · by_cases h2 : a = 91 ∧ b = 91
      · simp [h2, mkD, kSign]
      · simp [h1, h2, mkD]
  | [a, b, c], _, _ =>
    simp [c_mark_of, b_mark_of, markB, e_is_col]
    by_cases h1 : a = 91
    · by_cases h2 : col b = true
      · by_cases h3 : c = 93
        · simp [h1, h2, h3, mkD, kInk]
        · simp [h1, h2, h3, mkD]
      · simp [h1, h2, mkD]
    · simp [h1, mkD]
  | [a, b, c, d], _, _ =>
    simp [c_mark_of, b_mark_of, markB, e_is_col]
    by_cases h1 : a = 91
    · by_cases h5 : b = 47
      · by_cases h2 : col c = true
        · by_cases h3 : d = 93
          · simp [h1, h2, h3, h5, mkD, kGround]
          · simp [h1, h2, h3, h5, mkD]
        · simp [h1, h2, h5, mkD]
      · simp [h1, h5, mkD]
    · simp [h1, mkD]
theorem e_may (s : List Nat) (h0 : 1 ≤ s.length) (h4 : s.length ≤ 4) (O : Store) : c_may_become_mark [.str s] O = .ok (.bl (mayB s)) O := by
  match s, h0, h4 with
  | [a], _, _ =>
    simp [c_may_become_mark, b_may_become_mark, mayB]
    by_cases h1 : a = 91 <;> simp [h1]
  | [a, b], _, _ =>
    simp [c_may_become_mark, b_may_become_mark, mayB, e_is_col]
    by_cases h1 : a = 91
    · by_cases h2 : b = 47 <;> simp [h1, h2]
    · simp [h1]
  | [a, b, c], _, _ =>
    simp [c_may_become_mark, b_may_become_mark, mayB, e_is_col]
    by_cases h1 : a = 91
    · by_cases h2 : b = 47 <;> simp [h1, h2]
    · simp [h1]
  | [a, b, c, d], _, _ =>
    simp [c_may_become_mark, b_may_become_mark, mayB]
theorem e_own (p : Int) (c : Nat) (O : Store) : c_own_item [.int p, .str [c]] O = .ok (own p c) O := by
  simp [c_own_item, b_own_item, own, item]
  by_cases h1 : c = 10
  · simp [h1, kEnd]
  · by_cases h2 : c = 9
    · simp [h1, h2, kAnew]
    · simp [h1, h2, kSign]
theorem owns_enum (p : Int) : ∀ (l : List Nat) (k : Nat), (enumD k (signsD l)).map (fun d => match d with | .tup [.int i, .str [c]] => own (p + i) c | _ => .non) = owns (p + k) l
  | [], k => rfl
  | c :: l, k => by
    show own (p + (k : Int)) c :: (enumD (k + 1) (signsD l)).map _ = own (p + k) c :: owns (p + k + 1) l
    rw [owns_enum p l (k + 1)]
    congr 2
    omega
theorem e_owns (p : Int) (l : List Nat) (ha : ascii l = true) (hl : l.length ≤ 100000) (O : Store) : c_own_items [.int p, .str l] O = .ok (.lst (owns p l)) O := by
  have hl' : (enumD 0 (signsD l)).length ≤ 1000000 := by rw [enumD_len]; unfold signsD; rw [List.length_map]; omega
  have ec : cloop (mgN' 2 (mgsCons (mgN 0) (mgsCons (mgN 1) mgsNil))) mYes (mCall c_own_item (maCons (mBin gAdd (mVar 2) (mVar 0)) (maCons (mVar 1) maNil))) (enumD 0 (signsD l)) [none, none, some (.int p)] O [] = .ok (owns p l) O := by
    rw [cloop_map (fun ρ => ∃ a b, ρ = [a, b, some (.int p)]) (fun d => match d with | .tup [.int i, .str [c]] => own (p + i) c | _ => .non) _ _ _ _ ⟨none, none, rfl⟩ (by
      rintro d hd ρ ⟨a, b, rfl⟩
      obtain ⟨i, hi⟩ := List.mem_iff_getElem?.mp hd
      obtain ⟨c, hc, rfl⟩ := enum_sign hi
      refine ⟨_, rfl, ⟨_, _, rfl⟩, rfl, ?_⟩
      simp [e_own])]
    rw [owns_enum p l 0]
    simp
  simp [c_own_items, b_own_items, enF_str ha, hl', ec]
def RO (h : List Nat) (p : Int) : Ob := .ins "Reader" [("held", .str h), ("place", .int p)]
theorem fh {O : Store} {n : Nat} {h : List Nat} {p : Int} (e : O[n]? = some (RO h p)) : fldF ["Reader"] "held" (.ob n) O = .ok (.str h) O := by
  unfold fldF; dsimp only; rw [e]; rfl
theorem fp {O : Store} {n : Nat} {h : List Nat} {p : Int} (e : O[n]? = some (RO h p)) : fldF ["Reader"] "place" (.ob n) O = .ok (.int p) O := by
  unfold fldF; dsimp only; rw [e]; rfl
theorem ph {O : Store} {n : Nat} {h h' : List Nat} {p : Int} {ρ : DEnv} (e : O[n]? = some (RO h p)) : puF ["Reader"] "held" (.str h') ρ (.ok (.ob n) O) = .nx ρ (O.set n (RO h' p)) := by
  unfold puF; dsimp only; rw [e]; rfl
theorem pp {O : Store} {n : Nat} {h : List Nat} {p p' : Int} {ρ : DEnv} (e : O[n]? = some (RO h p)) : puF ["Reader"] "place" (.int p') ρ (.ok (.ob n) O) = .nx ρ (O.set n (RO h p')) := by
  unfold puF; dsimp only; rw [e]; rfl
theorem gs {O : Store} {n : Nat} {x y : Ob} (e : O[n]? = some x) : (O.set n y)[n]? = some y := by
  obtain ⟨h, _⟩ := List.getElem?_eq_some_iff.mp e
  simp [h]
theorem held_asc {h : List Nat} (H : Held h) : ascii h = true := by
  cases H with
  | h0 => rfl
  | h1 => rfl
  | h2 => rfl
  | h3 x hx =>
    have : x ∈ [97, 98, 99, 100, 101, 102, 103, 104, 46] := of_decide_eq_true hx
    have q : ∀ c ∈ [97, 98, 99, 100, 101, 102, 103, 104, 46], c < 128 := by decide
    simp [ascii, q x this]
  | h4 x hx =>
    have : x ∈ [97, 98, 99, 100, 101, 102, 103, 104, 46] := of_decide_eq_true hx
    have q : ∀ c ∈ [97, 98, 99, 100, 101, 102, 103, 104, 46], c < 128 := by decide
    simp [ascii, q x this]
theorem asc_app {a : List Nat} {c : Nat} (h : ascii a = true) (hc : c < 128) : ascii (a ++ [c]) = true := by
  unfold ascii at *
  rw [List.all_append, h]
  simp [hc]
theorem e_take {O : Store} {n : Nat} {h : List Nat} {p : Int} (e : O[n]? = some (RO h p)) (H : Held h) (c : Nat) (hc : c < 128) : c_Reader_take [.ob n, .str [c]] O = .ok (.lst (tk h c (p - h.length)).1) (O.set n (RO (tk h c (p - h.length)).2 (p + 1))) := by
  have hl := H.len
  have e1 : (O.set n (RO h (p + 1)))[n]? = some (RO h (p + 1)) := gs e
  have z1 : h.length + 1 ≤ 1000000 := by omega
  have z2 : h.length ≤ 1000000 := by omega
  have s0 : 1 ≤ (h ++ [c]).length := by simp
  have s4 : (h ++ [c]).length ≤ 4 := by simp; omega
  have f1 := e_may (h ++ [c]) s0 s4
  have f2 := e_mark (h ++ [c]) s0 s4
  have f3 := fun O => e_owns (p - h.length) h (held_asc H) (by omega) O
  have f4 := fun O => e_owns (p - h.length) (h ++ [c]) (asc_app (held_asc H) hc) (by omega) O
  unfold tk
  simp [c_Reader_take, b_Reader_take, fh e, fp e, pp e, z1, z2, f1]
  by_cases q1 : mayB (h ++ [c]) = true
  · simp [q1, ph e1]
  · simp [q1, f2]
    cases q2 : markB (h ++ [c]) with
    | some kv =>
      obtain ⟨k, v⟩ := kv
      simp [mkD, ph e1, item]
    | none =>
      simp [mkD]
      by_cases q3 : c = 91
      · subst q3
        simp [fh e1, f3, ph e1]
      · simp [q3, ph e1, f4]
theorem owns_len : ∀ (l : List Nat) (p : Int), (owns p l).length = l.length
  | [], _ => rfl
  | c :: l, p => by show (owns (p + 1) l).length + 1 = l.length + 1; rw [owns_len l]
theorem tk_len {h : List Nat} (H : Held h) (c : Nat) (p : Int) : (tk h c p).1.length ≤ 4 := by
  have := H.len
  unfold tk
  split
  · simp
  · split
    · simp
    · split <;> simp [owns_len] <;> omega
theorem runT_len : ∀ (t : List Nat) {h : List Nat} (_ : Held h) (p : Int), (runT h p t).1.length ≤ 4 * t.length
  | [], h, H, p => by simp [runT]
  | c :: t, h, H, p => by
    have a := tk_len H c (p - h.length)
    have b := runT_len t (take_items H c (p - h.length) []).1 (p + 1)
    simp only [runT, List.length_append, List.length_cons]
    omega
theorem set_set' {O : Store} {n : Nat} {x y : Ob} : (O.set n x).set n y = O.set n y := by simp
theorem feed_loop {n : Nat} {t0 : List Nat} : ∀ (t : List Nat) (h : List Nat) (_ : Held h) (p : Int) (acc : List D) (O : Store) (o3 : Option D), O[n]? = some (RO h p) → (∀ c ∈ t, c < 128) → acc.length + 4 * t.length ≤ 1000000 →
    ∃ o3', floop (mgN 3) (msExt 2 (mMeth "Reader" "take" c_Reader_take (mVar 0) (maCons (mVar 3) maNil))) (signsD t) [some (.ob n), some (.str t0), some (.lst acc), o3] O = .nx [some (.ob n), some (.str t0), some (.lst (acc ++ (runT h p t).1)), o3'] (O.set n (RO (runT h p t).2 (p + t.length)))
  | [], h, H, p, acc, O, o3, e, _, _ => by
    refine ⟨o3, ?_⟩
    obtain ⟨hn, e'⟩ := List.getElem?_eq_some_iff.mp e
    show Fl.nx _ O = _
    simp only [runT, List.append_nil, List.length_nil]
    have : O.set n (RO h p) = O := by rw [← e']; exact List.set_getElem_self _
    simp [this]
  | c :: t, h, H, p, acc, O, o3, e, hc, hl => by
    have et := e_take e H c (hc c List.mem_cons_self)
    have hm : meF "Reader" "take" c_Reader_take (maCons (mVar 3) maNil [some (.ob n), some (.str t0), some (.lst acc), some (.str [c])]) (.ob n) O = c_Reader_take [.ob n, .str [c]] O := by
      unfold meF
      dsimp only
      rw [e]
      rfl
    have tl := tk_len H c (p - h.length)
    simp only [List.length_cons] at hl
    obtain ⟨o3', q⟩ := feed_loop t (tk h c (p - h.length)).2 (take_items H c (p - h.length) []).1 (p + 1) (acc ++ (tk h c (p - h.length)).1) (O.set n (RO (tk h c (p - h.length)).2 (p + 1))) (some (.str [c])) (gs e) (fun d hd => hc d (List.mem_cons_of_mem _ hd)) (by rw [List.length_append]; omega)
    refine ⟨o3', ?_⟩
    have eb : (msExt 2 (mMeth "Reader" "take" c_Reader_take (mVar 0) (maCons (mVar 3) maNil))) [some (.ob n), some (.str t0), some (.lst acc), some (.str [c])] O = .nx [some (.ob n), some (.str t0), some (.lst (acc ++ (tk h c (p - h.length)).1)), some (.str [c])] (O.set n (RO (tk h c (p - h.length)).2 (p + 1))) := by
      rw [ms_ext, m_meth, m_var]
      show exF 2 (meF "Reader" "take" c_Reader_take _ (.ob n) O) _ = _
      rw [hm, et, exF_ok (ds := acc) rfl (by omega)]
      rfl
    show floop _ _ (D.str [c] :: signsD t) _ O = _
    unfold floop
    rw [mg_n]
    dsimp only
    show (match (msExt 2 (mMeth "Reader" "take" c_Reader_take (mVar 0) (maCons (mVar 3) maNil))) [some (.ob n), some (.str t0), some (.lst acc), some (.str [c])] O with
      | .nx ρ' O' => floop _ _ (signsD t) ρ' O' | .ct ρ' O' => floop _ _ (signsD t) ρ' O' | .bk ρ' O' => Fl.nx ρ' O' | r => r) = _
    rw [eb]
    dsimp only
    rw [q, set_set']
    simp only [runT, List.append_assoc, List.length_cons]
    congr 3
    push_cast
    omega
theorem e_feed {O : Store} {n : Nat} {h : List Nat} {p : Int} (e : O[n]? = some (RO h p)) (H : Held h) (t : List Nat) (ht : Okt t) : c_Reader_feed [.ob n, .str t] O = .ok (.lst (runT h p t).1) (O.set n (RO (runT h p t).2 (p + t.length))) := by
  have hl := ht.len
  obtain ⟨o3, q⟩ := feed_loop (t0 := t) t h H p [] O none e ht.lt (by simp; omega)
  have q' : floop (mgN 3) (msExt 2 (mMeth "Reader" "take" c_Reader_take (mVar 0) (maCons (mVar 3) maNil))) (signsD t) [some (.ob n), some (.str t), some (.lst []), none] O = _ := q
  simp only [c_Reader_feed, b_Reader_feed, m_fun, List.map_cons, List.map_nil, List.length_cons, List.length_nil, List.replicate, List.cons_append, List.nil_append, ms_seq, ms_drop, m_call, ma_cons, ma_nil, m_var, List.getElem?_cons_zero, List.getElem?_cons_succ, bind_ok', e_checked t ht, dropF_ok, seqF_nx, ms_set, m_lst, Nat.zero_le, if_true, setF_ok, List.set_cons_succ, List.set_cons_zero, ms_for, m_iter, iterD_str ht.asc, itF_some, forF_ok, q', ms_ret, retF_ok, funF_rt]
theorem e_finish {O : Store} {n : Nat} {h : List Nat} {p : Int} (e : O[n]? = some (RO h p)) (H : Held h) : c_Reader_finish [.ob n] O = .ok (.lst (owns (p - h.length) h)) (O.set n (RO [] p)) := by
  have hl := H.len
  have z2 : h.length ≤ 1000000 := by omega
  have f3 := fun O => e_owns (p - h.length) h (held_asc H) (by omega) O
  simp [c_Reader_finish, b_Reader_finish, fh e, fp e, z2, f3, ph e]
theorem e_init (O : Store) : c_Reader___init__ [.ob O.length] (O ++ [.ins "Reader" []]) = .ok .non (O ++ [RO [] 0]) := by
  have a : (O ++ [Ob.ins "Reader" []])[O.length]? = some (.ins "Reader" []) := by simp
  have s1 : ∀ ρ, puF ["Reader"] "held" (.str []) ρ (.ok (.ob O.length) (O ++ [.ins "Reader" []])) = .nx ρ (O ++ [.ins "Reader" [("held", .str [])]]) := fun ρ => by
    unfold puF
    dsimp only
    rw [a]
    dsimp only
    rw [if_pos (by decide)]
    simp [putD]
  have b : (O ++ [Ob.ins "Reader" [("held", .str [])]])[O.length]? = some (.ins "Reader" [("held", .str [])]) := by simp
  have s2 : ∀ ρ, puF ["Reader"] "place" (.int 0) ρ (.ok (.ob O.length) (O ++ [.ins "Reader" [("held", .str [])]])) = .nx ρ (O ++ [RO [] 0]) := fun ρ => by
    unfold puF
    dsimp only
    rw [b]
    dsimp only
    rw [if_pos (by constructor <;> decide)]
    have : putD "place" (.int 0) [("held", .str [])] = [(("held" : Str), D.str []), ("place", .int 0)] := by rfl
    rw [this]
    simp [RO]
  simp [c_Reader___init__, b_Reader___init__, s1, s2]
theorem e_new (ρ : DEnv) (O : Store) : mMake "Reader" c_Reader___init__ maNil ρ O = .ok (.ob O.length) (O ++ [RO [] 0]) := by
  simp [e_init]
theorem new_at (O : Store) : (O ++ [RO [] 0])[O.length]? = some (RO [] 0) := by simp
theorem e_meth {cf : List D → Store → Res D} {m : Str} {ma : Store → Res (List D)} {n : Nat} {O : Store} {h : List Nat} {p : Int} (hm : m ≠ "held") (hm' : m ≠ "place") (e : O[n]? = some (RO h p)) : meF "Reader" m cf ma (.ob n) O = (ma O).bind fun ds O2 => cf (.ob n :: ds) O2 := by
  unfold meF
  dsimp only
  rw [e]
  dsimp only [RO]
  rw [if_pos]
  refine ⟨rfl, ?_⟩
  have a : (m == ("held" : Str)) = false := by simpa using hm
  have b : (m == ("place" : Str)) = false := by simpa using hm'
  simp [List.lookup, a, b]
theorem cut_nn {α : Type} (l : List α) (a b : Nat) : cutN l (some (a : Int)) (some (b : Int)) = (l.drop a).take (b - a) := by
  unfold cutN
  rw [HT.sIx_nat, HT.sIx_nat]
  by_cases h : a ≤ l.length
  · rw [Nat.min_eq_left h]
    by_cases hb : b ≤ l.length
    · rw [Nat.min_eq_left hb]
    · rw [Nat.min_eq_right (by omega), List.take_of_length_le (by rw [List.length_drop]; omega), List.take_of_length_le (by rw [List.length_drop]; omega)]
  · rw [Nat.min_eq_right (show l.length ≤ a by omega), List.drop_eq_nil_of_le (show l.length ≤ l.length by omega), List.drop_eq_nil_of_le (show l.length ≤ a by omega)]
    simp
theorem cut_0n {α : Type} (l : List α) (b : Nat) : cutN l none (some (b : Int)) = l.take b := by
  unfold cutN
  rw [HT.sIx_nat, HT.sIx_none, List.drop_zero, Nat.sub_zero]
  by_cases hb : b ≤ l.length
  · rw [Nat.min_eq_left hb]
  · rw [Nat.min_eq_right (by omega), List.take_of_length_le (by omega), List.take_of_length_le (by omega)]
@[simp] theorem c2_1 {a : Nat} : cutN [a] none (some 2) = [a] := rfl
@[simp] theorem c2_2 {a b : Nat} : cutN [a, b] none (some 2) = [a, b] := rfl
@[simp] theorem c2_3 {a b c : Nat} : cutN [a, b, c] none (some 2) = [a, b] := rfl
@[simp] theorem c2_4 {a b c d : Nat} : cutN [a, b, c, d] none (some 2) = [a, b] := rfl
theorem gInCol {c : Nat} : gIn false (.str [c]) (.str [97, 98, 99, 100, 101, 102, 103, 104, 46]) = some (.bl (col c)) := by
  rw [gIn_s]; simp [col]
theorem e_law_item (t : List Nat) (ht : t.length ≤ 1000000) (at' : Nat) (c : Nat) (r : List Nat) (hr : t.drop at' = c :: r) (O : Store) : c_law_item [.str t, .int at'] O = .ok (.tup [item at' (one c r).1 (one c r).2.1, .int ((one c r).2.2 + 1 : Nat)]) O := by
  have hcut : cutN t (some (at' : Int)) (some ((at' : Int) + 4)) = (c :: r).take 4 := by
    rw [show (at' : Int) + 4 = ((at' + 4 : Nat) : Int) by push_cast; rfl, cut_nn, hr, show at' + 4 - at' = 4 by omega]
  have hz : t.length ≤ 16777216 := by omega
  simp [c_law_item, b_law_item, hcut, hz]
  by_cases h10 : c = 10
  · subst h10
    match r with
    | [] => simp [one, item, kEnd]
    | [d] => simp [one, item, kEnd]
    | [d, e] => simp [one, item, kEnd]
    | d :: e :: f :: g => simp [one, item, kEnd]
  by_cases h9 : c = 9
  · subst h9
    match r with
    | [] => simp [one, item, kAnew]
    | [d] => simp [one, item, kAnew]
    | [d, e] => simp [one, item, kAnew]
    | d :: e :: f :: g => simp [one, item, kAnew]
  by_cases h91 : c = 91
  · subst h91
    match r with
    | [] => simp [one, oneB, item, kSign]
    | [d] =>
      by_cases d1 : d = 93
      · simp [one, oneB, item, d1, kPlain]
      by_cases d2 : d = 91
      · simp [one, oneB, item, d1, d2, kSign]
      by_cases d3 : col d = true <;> by_cases d4 : d = 47 <;> simp [one, oneB, oneC, oneH, item, d1, d2, d3, d4, kSign]
    | [d, e] =>
      by_cases d1 : d = 93
      · simp [one, oneB, item, d1, kPlain]
      by_cases d2 : d = 91
      · simp [one, oneB, item, d1, d2, kSign]
      by_cases d3 : col d = true
      · by_cases e1 : e = 93 <;> simp [-gIn_s, gInCol, one, oneB, oneC, item, d1, d2, d3, e1, kSign, kInk]
      by_cases d4 : d = 47
      · by_cases e2 : col e = true <;> simp [-gIn_s, gInCol, one, oneB, oneH, oneG, item, d1, d2, d3, d4, e2, kSign, col_47]
      · simp [-gIn_s, gInCol, one, oneB, oneC, oneH, item, d1, d2, d3, d4, kSign]
    | d :: e :: f :: g =>
      by_cases d1 : d = 93
      · simp [one, oneB, item, d1, kPlain]
      by_cases d2 : d = 91
      · simp [one, oneB, item, d1, d2, kSign]
      by_cases d3 : col d = true
      · have d5 := (col_ne d3).2.2.1
        by_cases e1 : e = 93 <;> simp [-gIn_s, gInCol, one, oneB, oneC, item, d1, d2, d3, d5, e1, kSign, kInk]
      by_cases d4 : d = 47
      · by_cases e2 : col e = true
        · by_cases f1 : f = 93 <;> simp [-gIn_s, gInCol, one, oneB, oneH, oneG, item, d1, d2, d3, d4, e2, f1, kSign, kGround, col_47]
        · simp [-gIn_s, gInCol, one, oneB, oneH, oneG, item, d1, d2, d3, d4, e2, kSign, col_47]
      · simp [-gIn_s, gInCol, one, oneB, oneC, oneH, item, d1, d2, d3, d4, kSign]
  · match r with
    | [] => simp [one, item, kSign, h10, h9, h91]
    | [d] => simp [one, item, kSign, h10, h9, h91]
    | [d, e] => simp [one, item, kSign, h10, h9, h91]
    | d :: e :: f :: g => simp [one, item, kSign, h10, h9, h91]
theorem one_le (c : Nat) (r : List Nat) : (one c r).2.2 ≤ r.length := by
  unfold one
  split
  · simp
  split
  · simp
  split
  · unfold oneB
    cases r with
    | nil => simp
    | cons d r =>
      dsimp only
      split
      · simp
      split
      · simp
      split
      · unfold oneC
        cases r with
        | nil => simp
        | cons e r => dsimp only; split <;> simp
      split
      · unfold oneH
        cases r with
        | nil => simp
        | cons e r =>
          dsimp only
          split
          · unfold oneG
            cases r with
            | nil => simp
            | cons f r => dsimp only; split <;> simp
          · simp
      · simp
  · simp
theorem e_law_items (t : List Nat) (ht : t.length ≤ 5000) (O : Store) : c_law_items [.str t] O = .ok (.lst (items 0 t)) O := by
  obtain ⟨ρ', O', e, rfl, pre, at', o3, o4, rfl, h1, h2, h3, h4⟩ := wloop_ind (t := mTest (mBin gLt (mVar 2) (mCallB gLen (maCons (mVar 0) maNil))))
    (b := msSeq (msAsg (mCall c_law_item (maCons (mVar 0) (maCons (mVar 2) maNil))) (mgN' 2 (mgsCons (mgN 3) (mgsCons (mgN 4) mgsNil)))) (msSeq (msApp 1 (mVar 3)) (msSet 2 (mBin gAdd (mVar 2) (mVar 4)))))
    (fun k ρ O' => O' = O ∧ ∃ (pre : List D) (at' : Nat) (o3 o4 : Option D), ρ = [some (.str t), some (.lst pre), some (.int at'), o3, o4] ∧ at' ≤ t.length ∧ k = t.length - at' ∧ pre ++ items at' (t.drop at') = items 0 t ∧ pre.length ≤ at')
    wF t.length [some (.str t), some (.lst []), some (.int 0), none, none] O (by unfold wF; omega) ⟨rfl, [], 0, none, none, rfl, Nat.zero_le _, by omega, by simp, by simp⟩ (by
      rintro k ρ O' ⟨rfl, pre, at', o3, o4, rfl, h1, h2, h3, h4⟩
      have hz : t.length ≤ 1000000 := by omega
      have hlt : at' < t.length := by omega
      have hlt' : (at' : Int) < t.length := by omega
      refine ⟨by simp [hz, hlt], ?_⟩
      cases hd : t.drop at' with
      | nil =>
        have := congrArg List.length hd
        simp at this
        omega
      | cons c r =>
        have hl := congrArg List.length hd
        simp at hl
        have ho := one_le c r
        have ei := e_law_item t hz at' c r hd O'
        refine ⟨t.length - (at' + ((one c r).2.2 + 1)), [some (.str t), some (.lst (pre ++ [item at' (one c r).1 (one c r).2.1])), some (.int ((at' + ((one c r).2.2 + 1) : Nat) : Int)), some (item at' (one c r).1 (one c r).2.1), some (.int ((one c r).2.2 + 1 : Nat))], O', by omega, ?_, rfl, _, _, _, _, rfl, by omega, rfl, ?_, ?_⟩
        · rw [ms_seq, ms_asg]
          simp only [m_call, ma_cons, ma_nil, m_var, List.getElem?_cons_zero, List.getElem?_cons_succ, bind_ok', ei]
          rw [asF_ok mg_2]
          simp only [seqF_nx, ms_seq, ms_app, m_var, List.set_cons_succ, List.set_cons_zero, List.getElem?_cons_zero, List.getElem?_cons_succ]
          rw [apF_ok (ds := pre) rfl (by omega)]
          simp
        · rw [hd, items_cons] at h3
          rw [← h3, List.append_assoc]
          congr 1
          have : t.drop (at' + ((one c r).2.2 + 1)) = r.drop (one c r).2.2 := by
            rw [← List.drop_drop, hd, Nat.add_comm, ← List.drop_drop]
            rfl
          rw [this]
          simp
        · simp
          omega) (by
      rintro ρ O' ⟨rfl, pre, at', o3, o4, rfl, h1, h2, h3, h4⟩
      have hz : t.length ≤ 1000000 := by omega
      have hlt : t.length ≤ at' := by omega
      simp [hz, hlt])
  have hd : t.drop at' = [] := List.drop_eq_nil_of_le (by omega)
  rw [hd, items_nil, List.append_nil] at h3
  subst h3
  simp only [c_law_items, b_law_items, m_fun, List.map_cons, List.map_nil, List.length_cons, List.length_nil, List.replicate, List.cons_append, List.nil_append, ms_seq, ms_set, m_lst, ma_nil, bind_ok', Nat.zero_le, if_true, setF_ok, seqF_nx, List.set_cons_succ, List.set_cons_zero, m_c]
  show funF (seqF (msWhile wF _ _ [some (.str t), some (.lst []), some (.int 0), none, none] O') _) = _
  unfold msWhile
  rw [e]
  rfl
abbrev LT := Nat × Nat × Nat × Int
def dL (x : LT) : D := .tup [.str [x.1], .str [x.2.1], .str [x.2.2.1], .int x.2.2.2]
def OkL (x : LT) : Prop := x.1 ≤ 125 ∧ x.2.1 ≤ 125 ∧ x.2.2.1 ≤ 125
theorem letter_ok {x : LT} (h : OkL x) : plainD (dL x) = true ∧ (toP (dL x)).canLay0 = true ∧ (toP (dL x)).depth ≤ 5 := by
  obtain ⟨h1, h2, h3⟩ := h
  refine ⟨rfl, ?_, ?_⟩
  · have a := lay_str (l := [x.1]) (by simp; omega)
    have b := lay_str (l := [x.2.1]) (by simp; omega)
    have c := lay_str (l := [x.2.2.1]) (by simp; omega)
    show PyData.canLay0 (.tuple [.str (S [x.1]), .str (S [x.2.1]), .str (S [x.2.2.1]), .int x.2.2.2]) = true
    simp [PyData.canLay0, PyData.canLayAll0] at *
    try exact ⟨a, b, c⟩
  · show PyData.depth (.tuple [.str (S [x.1]), .str (S [x.2.1]), .str (S [x.2.2.1]), .int x.2.2.2]) ≤ 5
    simp [PyData.depth, PyData.depthAll]
theorem okE_letters (l : List LT) (h : ∀ x ∈ l, OkL x) : okE (.lst (l.map dL)) = true := okE_lst (n := 5) (by decide) fun d hd => by
  obtain ⟨x, hx, rfl⟩ := List.mem_map.mp hd
  exact letter_ok (h x hx)
def kWhole : List Nat := [119, 104, 111, 108, 101]
def kMore : List Nat := [109, 111, 114, 101]
def mkO (M : Int) (lw : List Nat) (n : Nat) (i g : Nat) (st : Bool) : Ob := .ins "Maker" [("most", .int M), ("last_word", .str lw), ("letters", .ob n), ("pair", .tup [.str [i], .str [g]]), ("stale", .bl st)]
section
variable {O : Store} {o n i g : Nat} {M : Int} {lw : List Nat} {st : Bool}
theorem fM (e : O[o]? = some (mkO M lw n i g st)) : fldF ["Maker"] "most" (.ob o) O = .ok (.int M) O := by
  unfold fldF; dsimp only; rw [e]; rfl
theorem fL (e : O[o]? = some (mkO M lw n i g st)) : fldF ["Maker"] "letters" (.ob o) O = .ok (.ob n) O := by
  unfold fldF; dsimp only; rw [e]; rfl
theorem fP (e : O[o]? = some (mkO M lw n i g st)) : fldF ["Maker"] "pair" (.ob o) O = .ok (.tup [.str [i], .str [g]]) O := by
  unfold fldF; dsimp only; rw [e]; rfl
theorem fS (e : O[o]? = some (mkO M lw n i g st)) : fldF ["Maker"] "stale" (.ob o) O = .ok (.bl st) O := by
  unfold fldF; dsimp only; rw [e]; rfl
theorem pW {ρ : DEnv} {w : List Nat} (e : O[o]? = some (mkO M lw n i g st)) : puF ["Maker"] "last_word" (.str w) ρ (.ok (.ob o) O) = .nx ρ (O.set o (mkO M w n i g st)) := by
  unfold puF; dsimp only; rw [e]; rfl
theorem pL {ρ : DEnv} {m : Nat} (e : O[o]? = some (mkO M lw n i g st)) : puF ["Maker"] "letters" (.ob m) ρ (.ok (.ob o) O) = .nx ρ (O.set o (mkO M lw m i g st)) := by
  unfold puF; dsimp only; rw [e]; rfl
theorem pP {ρ : DEnv} {i' g' : Nat} (e : O[o]? = some (mkO M lw n i g st)) : puF ["Maker"] "pair" (.tup [.str [i'], .str [g']]) ρ (.ok (.ob o) O) = .nx ρ (O.set o (mkO M lw n i' g' st)) := by
  unfold puF; dsimp only; rw [e]; rfl
theorem pS {ρ : DEnv} {b : Bool} (e : O[o]? = some (mkO M lw n i g st)) : puF ["Maker"] "stale" (.bl b) ρ (.ok (.ob o) O) = .nx ρ (O.set o (mkO M lw n i g b)) := by
  unfold puF; dsimp only; rw [e]; rfl
theorem gs' {x y : Ob} (e : O[o]? = some x) : (O.set o y)[o]? = some y := by
  obtain ⟨h, _⟩ := List.getElem?_eq_some_iff.mp e
  simp [h]
theorem ap1 {x y : Ob} (e : O[o]? = some x) : (O ++ [y])[o]? = some x := by
  rw [List.getElem?_append_left (List.getElem?_eq_some_iff.mp e).1]; exact e
theorem apN {y : Ob} : (O ++ [y])[O.length]? = some y := by simp
@[simp] theorem m_ml {m : L2.M D} {ρ : DEnv} : mMl m ρ O = (m ρ O).bind fun d O1 => match d with
  | .lst ds => .ok (.ob O1.length) (O1 ++ [.ml ds])
  | d => .ok d O1 := rfl
theorem e_mth {cf : List D → Store → Res D} {m : Str} {ma : Store → Res (List D)} (h1 : m ≠ "most") (h2 : m ≠ "last_word") (h3 : m ≠ "letters") (h4 : m ≠ "pair") (h5 : m ≠ "stale") (e : O[o]? = some (mkO M lw n i g st)) : meF "Maker" m cf ma (.ob o) O = (ma O).bind fun ds O2 => cf (.ob o :: ds) O2 := by
  unfold meF
  dsimp only
  rw [e]
  dsimp only [mkO]
  rw [if_pos]
  refine ⟨rfl, ?_⟩
  have a1 : (m == ("most" : Str)) = false := by simpa using h1
  have a2 : (m == ("last_word" : Str)) = false := by simpa using h2
  have a3 : (m == ("letters" : Str)) = false := by simpa using h3
  have a4 : (m == ("pair" : Str)) = false := by simpa using h4
  have a5 : (m == ("stale" : Str)) = false := by simpa using h5
  simp [List.lookup, a1, a2, a3, a4, a5]
theorem e_tell {w : List Nat} (e : O[o]? = some (mkO M lw n i g st)) : c_Maker_tell [.ob o, .str w] O = .ok (.lst [.tup [.ob n, .str w]]) ((O ++ [Ob.ml []]).set o (mkO M w O.length i g st)) := by
  have e1 : (O ++ [Ob.ml []])[o]? = some (mkO M lw n i g st) := ap1 e
  have e2 : ((O ++ [Ob.ml []]).set o (mkO M lw O.length i g st))[o]? = some (mkO M lw O.length i g st) := gs' e1
  simp [c_Maker_tell, b_Maker_tell, fL e, pL e1, pW e2]
theorem e_empty (e : O[o]? = some (mkO M lw n i g st)) : c_Maker_empty_stale [.ob o] O = .ok .non (if st = true then (O ++ [Ob.ml []]).set o (mkO M lw O.length i g false) else O) := by
  have e1 : (O ++ [Ob.ml []])[o]? = some (mkO M lw n i g st) := ap1 e
  have e2 : ((O ++ [Ob.ml []]).set o (mkO M lw O.length i g st))[o]? = some (mkO M lw O.length i g st) := gs' e1
  cases st with
  | true => simp [c_Maker_empty_stale, b_Maker_empty_stale, fS e, pL e1, pS e2]
  | false => simp [c_Maker_empty_stale, b_Maker_empty_stale, fS e]
theorem appO_ok {mo m : L2.M D} {ρ : DEnv} {ds : List D} {d : D} (h1 : mo ρ O = .ok (.ob n) O) (h2 : O[n]? = some (.ml ds)) (h3 : m ρ O = .ok d O) (h4 : ds.length < 1000000) : msAppO mo m ρ O = .nx ρ (O.set n (.ml (ds ++ [d]))) := by
  unfold msAppO
  rw [h1]
  dsimp only
  rw [h2]
  dsimp only
  rw [h3]
  dsimp only
  rw [h2]
  dsimp only
  rw [if_pos h4]
theorem deref_ob {ds : List D} (h : O[n]? = some (.ml ds)) : deref O (.ob n) = .lst ds := by
  unfold deref
  dsimp only
  rw [h]
end
structure Sta where
  row : List LT
  st : Bool
  i : Nat
  g : Nat
structure OkS (M : Int) (s : Sta) : Prop where
  len : (s.row.length : Int) ≤ M
  ok : ∀ x ∈ s.row, OkL x
  i : s.i ≤ 125
  g : s.g ≤ 125
def Mk (O : Store) (o : Nat) (M : Int) (lw : List Nat) (s : Sta) : Prop := ∃ n, O[o]? = some (mkO M lw n s.i s.g s.st) ∧ O[n]? = some (.ml (s.row.map dL))
def Prt (O : Store) (told : List D) (due : List (List LT × List Nat)) : Prop := (told = [] ∧ due = []) ∨ ∃ n r w, told = [.tup [.ob n, .str w]] ∧ due = [(r, w)] ∧ O[n]? = some (.ml (r.map dL)) ∧ (w = kWhole ∨ w = kMore) ∧ (∀ x ∈ r, OkL x) ∧ r.length ≤ 1000
inductive Itm : List Nat → List Nat → Prop where
  | anew : Itm kAnew []
  | end_ : Itm kEnd []
  | plain : Itm kPlain []
  | ink (c : Nat) (h : c ≤ 125) : Itm kInk [c]
  | ground (c : Nat) (h : c ≤ 125) : Itm kGround [c]
  | sign (c : Nat) (h : c ≤ 125) : Itm kSign [c]
def bare (s : Sta) : List LT := if s.st = true then [] else s.row
def stS (M : Int) (s : Sta) (p : Int) (c : Nat) : Sta := if ((bare s).length : Int) = M then ⟨[(c, s.i, s.g, p)], false, s.i, s.g⟩ else ⟨bare s ++ [(c, s.i, s.g, p)], false, s.i, s.g⟩
def dueS (M : Int) (s : Sta) : List (List LT × List Nat) := if ((bare s).length : Int) = M then [(bare s, kMore)] else []
def stp (M : Int) (s : Sta) (p : Int) (k v : List Nat) : Sta :=
  if k = kAnew then ⟨s.row, true, 46, 46⟩ else if k = kEnd then ⟨[], false, 46, 46⟩ else if k = kSign then stS M s p (v.headD 0) else if k = kInk then ⟨bare s, false, v.headD 0, s.g⟩ else if k = kGround then ⟨bare s, false, s.i, v.headD 0⟩ else ⟨bare s, false, 46, 46⟩
def due (M : Int) (s : Sta) (k : List Nat) : List (List LT × List Nat) := if k = kEnd then [(s.row, kWhole)] else if k = kSign then dueS M s else []
def lwS (M : Int) (s : Sta) (lw k : List Nat) : List Nat := match due M s k with
  | [(_, w)] => w
  | _ => lw
def dueD (x : List LT × List Nat) : D := .tup [.lst (x.1.map dL), .str x.2]
@[simp] theorem mg_3 {i j k : Nat} {a b c : D} {ρ : DEnv} : mgN' 3 (mgsCons (mgN i) (mgsCons (mgN j) (mgsCons (mgN k) mgsNil))) (.tup [a, b, c]) ρ = some (((ρ.set i (some a)).set j (some b)).set k (some c)) := rfl
section
variable {O : Store} {o n i g : Nat} {M : Int} {lw : List Nat} {st : Bool}
theorem o_lt {x : Ob} (e : O[o]? = some x) : o < O.length := (List.getElem?_eq_some_iff.mp e).1
theorem e_add {ds : List D} {p : Int} {c : Nat} (e : O[o]? = some (mkO M lw n i g st)) (el : O[n]? = some (.ml ds)) (hl : ds.length < 1000000) :
    c_Maker_add_letter [.ob o, item p kSign [c]] O = if (ds.length : Int) = M then .ok (.lst [.tup [.ob n, .str kMore]]) (((O ++ [Ob.ml []]).set o (mkO M kMore O.length i g st)).set O.length (.ml [dL (c, i, g, p)])) else .ok (.lst []) (O.set n (.ml (ds ++ [dL (c, i, g, p)]))) := by
  have ed := deref_ob el
  have pre : ∀ (ρ : DEnv) (O' : Store) (n' : Nat) (lw' : List Nat), O'[o]? = some (mkO M lw' n' i g st) → ∀ a2, (mTup (maCons (mBin gIx (mVar 1) (mC (.int 2))) (maCons (mBin gIx (mFld ["Maker"] "pair" (mVar 0)) (mC (.int 0))) (maCons (mBin gIx (mFld ["Maker"] "pair" (mVar 0)) (mC (.int 1))) (maCons (mBin gIx (mVar 1) (mC (.int 0))) maNil))))) [some (.ob o), some (item p kSign [c]), a2] O' = .ok (dL (c, i, g, p)) O' := fun ρ O' n' lw' h a2 => by
    have i0 : gIx (.tup [.int p, .str kSign, .str [c]]) (.int 2) = some (.str [c]) := rfl
    have i1 : gIx (.tup [.int p, .str kSign, .str [c]]) (.int 0) = some (.int p) := rfl
    have i2 : gIx (.tup [.str [i], .str [g]]) (.int 0) = some (.str [i]) := rfl
    have i3 : gIx (.tup [.str [i], .str [g]]) (.int 1) = some (.str [g]) := rfl
    simp [item, fP h, i0, i1, i2, i3, dL]
  by_cases hm : (ds.length : Int) = M
  · rw [if_pos hm]
    have et := e_tell (w := kMore) e
    have e1 : ((O ++ [Ob.ml []]).set o (mkO M kMore O.length i g st))[o]? = some (mkO M kMore O.length i g st) := gs' (ap1 e)
    have e2 : ((O ++ [Ob.ml []]).set o (mkO M kMore O.length i g st))[O.length]? = some (.ml []) := by
      rw [List.getElem?_set_ne (Nat.ne_of_lt (o_lt e))]; exact apN
    have ea := appO_ok (mo := mFld ["Maker"] "letters" (mVar 0)) (m := mTup (maCons (mBin gIx (mVar 1) (mC (.int 2))) (maCons (mBin gIx (mFld ["Maker"] "pair" (mVar 0)) (mC (.int 0))) (maCons (mBin gIx (mFld ["Maker"] "pair" (mVar 0)) (mC (.int 1))) (maCons (mBin gIx (mVar 1) (mC (.int 0))) maNil))))) (ρ := [some (.ob o), some (item p kSign [c]), some (.lst [.tup [.ob n, .str kMore]])]) (by simp [fL e1]) e2 (pre [] _ _ _ e1 _) (by simp)
    have c1 : (mTest (mBin gEq (mCallB gLen (maCons (mFld ["Maker"] "letters" (mVar 0)) maNil)) (mFld ["Maker"] "most" (mVar 0)))) [some (.ob o), some (item p kSign [c]), some (.lst [])] O = .ok true O := by
      simp [fL e, fM e, ed, hm]
    have c2 : (mMeth "Maker" "tell" c_Maker_tell (mVar 0) (maCons (mC (.str [109, 111, 114, 101])) maNil)) [some (.ob o), some (item p kSign [c]), some (.lst [])] O = .ok (.lst [.tup [.ob n, .str kMore]]) ((O ++ [Ob.ml []]).set o (mkO M kMore O.length i g st)) := by
      rw [m_meth]
      simp only [m_var, List.getElem?_cons_zero, bind_ok', e_mth (m := "tell") (by decide) (by decide) (by decide) (by decide) (by decide) e, ma_cons, ma_nil, m_c]
      exact et
    show funF (b_Maker_add_letter [some (.ob o), some (item p kSign [c]), none] O) = _
    unfold b_Maker_add_letter
    simp only [ms_seq, ms_set, m_lst, ma_nil, bind_ok', List.length_nil, Nat.zero_le, if_true, setF_ok, seqF_nx, List.set_cons_succ, List.set_cons_zero, ms_if, c1, ifF_ok, c2, ea, ms_ret, m_var, List.getElem?_cons_succ, List.getElem?_cons_zero, retF_ok, funF_rt, List.nil_append]
  · rw [if_neg hm]
    have ea := appO_ok (mo := mFld ["Maker"] "letters" (mVar 0)) (m := mTup (maCons (mBin gIx (mVar 1) (mC (.int 2))) (maCons (mBin gIx (mFld ["Maker"] "pair" (mVar 0)) (mC (.int 0))) (maCons (mBin gIx (mFld ["Maker"] "pair" (mVar 0)) (mC (.int 1))) (maCons (mBin gIx (mVar 1) (mC (.int 0))) maNil))))) (ρ := [some (.ob o), some (item p kSign [c]), some (.lst [])]) (by simp [fL e]) el (pre [] _ _ _ e _) hl
    have c1 : (mTest (mBin gEq (mCallB gLen (maCons (mFld ["Maker"] "letters" (mVar 0)) maNil)) (mFld ["Maker"] "most" (mVar 0)))) [some (.ob o), some (item p kSign [c]), some (.lst [])] O = .ok false O := by
      simp [fL e, fM e, ed, hm]
    show funF (b_Maker_add_letter [some (.ob o), some (item p kSign [c]), none] O) = _
    unfold b_Maker_add_letter
    simp only [ms_seq, ms_set, m_lst, ma_nil, bind_ok', List.length_nil, Nat.zero_le, if_true, setF_ok, seqF_nx, List.set_cons_succ, List.set_cons_zero, ms_if, c1, ifF_ok, Bool.false_eq_true, if_false, ms_nil, ea, ms_ret, m_var, List.getElem?_cons_succ, List.getElem?_cons_zero, retF_ok, funF_rt]
theorem e_pair {i g : Nat} {k v : List Nat} (h : Itm k v) (O : Store) : c_pair_behind [.tup [.str [i], .str [g]], .str k, .str v] O = .ok (if k = kInk then .tup [.str [v.headD 0], .str [g]] else if k = kGround then .tup [.str [i], .str [v.headD 0]] else if k = kSign then .tup [.str [i], .str [g]] else .tup [.str [46], .str [46]]) O := by
  have i2 : gIx (.tup [.str [i], .str [g]]) (.int 0) = some (.str [i]) := rfl
  have i3 : gIx (.tup [.str [i], .str [g]]) (.int 1) = some (.str [g]) := rfl
  cases h <;> simp [c_pair_behind, b_pair_behind, kAnew, kEnd, kSign, kInk, kGround, kPlain, i2, i3]
theorem e_open {ds : List D} (e : O[o]? = some (mkO M lw n i g st)) (el : O[n]? = some (.ml ds)) : c_Maker_open_letters [.ob o] O = .ok (.lst ds) O := by
  simp [c_Maker_open_letters, b_Maker_open_letters, fL e, deref_ob el]
end
theorem ne_on {O : Store} {o n : Nat} {M : Int} {lw : List Nat} {m i g : Nat} {st : Bool} {ds : List D} (e : O[o]? = some (mkO M lw m i g st)) (el : O[n]? = some (.ml ds)) : o ≠ n := fun z => by
  rw [z, el] at e
  cases e
theorem Prt.set {O : Store} {o : Nat} {M : Int} {lw : List Nat} {m i g : Nat} {st : Bool} {told : List D} {du : List (List LT × List Nat)} {x : Ob} (h : Prt O told du) (e : O[o]? = some (mkO M lw m i g st)) : Prt (O.set o x) told du := by
  rcases h with h | ⟨n, r, w, h1, h2, h3, h4⟩
  · exact .inl h
  · exact .inr ⟨n, r, w, h1, h2, by rw [List.getElem?_set_ne (ne_on e h3)]; exact h3, h4⟩
def Sep (O : Store) (o : Nat) (told : List D) : Prop := ∀ n w, told = [.tup [.ob n, .str w]] → ∀ (M : Int) (lw : List Nat) (m i g : Nat) (st : Bool), O[o]? = some (mkO M lw m i g st) → m ≠ n
theorem mkO_inj {M M' : Int} {lw lw' : List Nat} {n m i i' g g' : Nat} {st st' : Bool} (h : mkO M lw n i g st = mkO M' lw' m i' g' st') : n = m := by
  unfold mkO at h
  cases h
  rfl
theorem Sep.nil {O : Store} {o : Nat} : Sep O o [] := fun n w h => nomatch h
theorem Sep.one {O : Store} {o n : Nat} {w : List Nat} {M : Int} {lw : List Nat} {m i g : Nat} {st : Bool} (e : O[o]? = some (mkO M lw m i g st)) (h : m ≠ n) : Sep O o [.tup [.ob n, .str w]] := fun n' w' hz M' lw' m' i' g' st' e' => by
  rw [e] at e'
  have := mkO_inj (Option.some.inj e')
  cases hz
  rw [← this]
  exact h
def Old (O : Store) (o n : Nat) (ds : List D) : Prop := O[n]? = some (.ml ds) ∧ ∀ (M : Int) (lw : List Nat) (m i g : Nat) (st : Bool), O[o]? = some (mkO M lw m i g st) → m ≠ n
def Keeps (O O' : Store) (o : Nat) : Prop := ∀ n ds, Old O o n ds → Old O' o n ds
theorem Keeps.refl {O : Store} {o : Nat} : Keeps O O o := fun _ _ h => h
theorem Keeps.trans {O O1 O2 : Store} {o : Nat} (a : Keeps O O1 o) (b : Keeps O1 O2 o) : Keeps O O2 o := fun n ds h => b n ds (a n ds h)
theorem old_mk {O : Store} {o n : Nat} {ds : List D} {M : Int} {lw : List Nat} {m i g : Nat} {st : Bool} (el : O[n]? = some (.ml ds)) (e : O[o]? = some (mkO M lw m i g st)) (h : m ≠ n) : Old O o n ds := ⟨el, fun M' lw' m' i' g' st' e' => by
  rw [e] at e'
  rw [← mkO_inj (Option.some.inj e')]
  exact h⟩
theorem keeps_new {O : Store} {o : Nat} {M : Int} {lw : List Nat} {n i g : Nat} {st : Bool} (e : O[o]? = some (mkO M lw n i g st)) {M' : Int} {lw' : List Nat} {i' g' : Nat} {st' : Bool} : Keeps O ((O ++ [Ob.ml []]).set o (mkO M' lw' O.length i' g' st')) o := fun m ds h => by
  have hm := (List.getElem?_eq_some_iff.mp h.1).1
  refine old_mk (by rw [List.getElem?_set_ne (ne_on e h.1)]; exact ap1 h.1) (gs' (ap1 e)) (by omega)
theorem keeps_set {O : Store} {o : Nat} {M : Int} {lw : List Nat} {n i g : Nat} {st : Bool} (e : O[o]? = some (mkO M lw n i g st)) {M' : Int} {lw' : List Nat} {i' g' : Nat} {st' : Bool} : Keeps O (O.set o (mkO M' lw' n i' g' st')) o := fun m ds h =>
  old_mk (by rw [List.getElem?_set_ne (ne_on e h.1)]; exact h.1) (gs' e) (h.2 _ _ _ _ _ _ e)
theorem keeps_app {O : Store} {o : Nat} {M : Int} {lw : List Nat} {n i g : Nat} {st : Bool} {ds' ds'' : List D} (e : O[o]? = some (mkO M lw n i g st)) (el : O[n]? = some (.ml ds')) : Keeps O (O.set n (.ml ds'')) o := fun m ds h =>
  old_mk (by rw [List.getElem?_set_ne (h.2 _ _ _ _ _ _ e)]; exact h.1) (by rw [List.getElem?_set_ne (Ne.symm (ne_on e el))]; exact e) (h.2 _ _ _ _ _ _ e)
theorem m_empty {O : Store} {o : Nat} {M : Int} {lw : List Nat} {s : Sta} (h : Mk O o M lw s) : ∃ O1, c_Maker_empty_stale [.ob o] O = .ok .non O1 ∧ Mk O1 o M lw ⟨bare s, false, s.i, s.g⟩ ∧ Keeps O O1 o := by
  obtain ⟨n, e, el⟩ := h
  have q := e_empty e
  cases hs : s.st with
  | true =>
    rw [hs, if_pos rfl] at q
    refine ⟨_, q, ⟨O.length, gs' (ap1 e), ?_⟩, keeps_new e⟩
    rw [List.getElem?_set_ne (Nat.ne_of_lt (o_lt e))]
    show (O ++ [Ob.ml []])[O.length]? = some (.ml ((bare s).map dL))
    unfold bare
    rw [hs]
    exact apN
  | false =>
    rw [hs, if_neg Bool.false_ne_true] at q
    refine ⟨_, q, ⟨n, by rw [hs] at e; exact e, ?_⟩, Keeps.refl⟩
    show O[n]? = some (.ml ((bare s).map dL))
    unfold bare
    rw [hs]
    exact el
theorem m_add {O : Store} {o : Nat} {M : Int} {lw : List Nat} {s : Sta} {p : Int} {c : Nat} (h : Mk O o M lw s) (hl : s.row.length ≤ 1000) (hok : ∀ x ∈ s.row, OkL x) : ∃ O1 told, c_Maker_add_letter [.ob o, item p kSign [c]] O = .ok (.lst told) O1 ∧
    Mk O1 o M (if (s.row.length : Int) = M then kMore else lw) ⟨if (s.row.length : Int) = M then [(c, s.i, s.g, p)] else s.row ++ [(c, s.i, s.g, p)], s.st, s.i, s.g⟩ ∧ Prt O1 told (if (s.row.length : Int) = M then [(s.row, kMore)] else []) ∧ Sep O1 o told ∧ Keeps O O1 o := by
  obtain ⟨n, e, el⟩ := h
  have q := e_add (p := p) (c := c) e el (by rw [List.length_map]; omega)
  rw [List.length_map] at q
  have hn := o_lt el
  have ho := o_lt e
  by_cases hm : (s.row.length : Int) = M
  · rw [if_pos hm] at q
    rw [if_pos hm, if_pos hm, if_pos hm]
    have l1 : ((O ++ [Ob.ml []]).set o (mkO M kMore O.length s.i s.g s.st)).length = O.length + 1 := by simp
    have eo : (((O ++ [Ob.ml []]).set o (mkO M kMore O.length s.i s.g s.st)).set O.length (.ml [dL (c, s.i, s.g, p)]))[o]? = some (mkO M kMore O.length s.i s.g s.st) := by
      rw [List.getElem?_set_ne (by omega)]
      exact gs' (ap1 e)
    refine ⟨_, _, q, ⟨O.length, eo, ?_⟩, .inr ⟨n, s.row, kMore, rfl, rfl, ?_, .inr rfl, hok, hl⟩, Sep.one eo (by omega), (keeps_new e).trans (keeps_app (gs' (ap1 e)) (by rw [List.getElem?_set_ne (Nat.ne_of_lt (o_lt e))]; exact apN))⟩
    · rw [List.getElem?_set_self (by rw [l1]; omega)]
      rfl
    · rw [List.getElem?_set_ne (by omega), List.getElem?_set_ne (ne_on e el)]
      exact ap1 el
  · rw [if_neg hm] at q
    rw [if_neg hm, if_neg hm, if_neg hm]
    refine ⟨_, _, q, ⟨n, ?_, ?_⟩, .inl ⟨rfl, rfl⟩, Sep.nil, keeps_app e el⟩
    · rw [List.getElem?_set_ne (Ne.symm (ne_on e el))]
      exact e
    · rw [List.getElem?_set_self hn]
      simp
def pairK (s : Sta) (k v : List Nat) : Nat × Nat := if k = kInk then (v.headD 0, s.g) else if k = kGround then (s.i, v.headD 0) else if k = kSign then (s.i, s.g) else (46, 46)
theorem m_tail {O : Store} {o : Nat} {M : Int} {lw : List Nat} {s : Sta} {p : Int} {k v : List Nat} {told : List D} {du : List (List LT × List Nat)} (h : Mk O o M lw s) (it : Itm k v) (hp : Prt O told du) (hse : Sep O o told) :
    ∃ O', (msSeq (msFld ["Maker"] "pair" (mVar 0) (mCall c_pair_behind (maCons (mFld ["Maker"] "pair" (mVar 0)) (maCons (mVar 2) (maCons (mBin gIx (mVar 1) (mC (.int 2))) maNil))))) (msRet (mVar 3))) [some (.ob o), some (item p k v), some (.str k), some (.lst told)] O = .rt (.lst told) O' ∧ Mk O' o M lw ⟨s.row, s.st, (pairK s k v).1, (pairK s k v).2⟩ ∧ Prt O' told du ∧ Sep O' o told ∧ Keeps O O' o := by
  obtain ⟨n, e, el⟩ := h
  have i2 : gIx (item p k v) (.int 2) = some (.str v) := rfl
  have ep := e_pair (i := s.i) (g := s.g) it O
  have pk : (if k = kInk then D.tup [.str [v.headD 0], .str [s.g]] else if k = kGround then .tup [.str [s.i], .str [v.headD 0]] else if k = kSign then .tup [.str [s.i], .str [s.g]] else .tup [.str [46], .str [46]]) = .tup [.str [(pairK s k v).1], .str [(pairK s k v).2]] := by
    unfold pairK
    split
    · rfl
    · split
      · rfl
      · split <;> rfl
  rw [pk] at ep
  have di : deref O (item p k v) = item p k v := rfl
  refine ⟨O.set o (mkO M lw n (pairK s k v).1 (pairK s k v).2 s.st), ?_, ⟨n, gs' e, by rw [List.getElem?_set_ne (ne_on e el)]; exact el⟩, hp.set e, ?_, keeps_set e⟩
  rotate_left
  · intro n' w' hz M' lw' m' i' g' st' e'
    rw [gs' e] at e'
    rw [← mkO_inj (Option.some.inj e')]
    exact hse n' w' hz _ _ _ _ _ _ e
  simp only [ms_seq, ms_fld, m_call, ma_cons, ma_nil, m_fld, m_var, List.getElem?_cons_zero, List.getElem?_cons_succ, bind_ok', fP e, m_bin, m_c, di, deref_int, i2, ofO_some, ep, sfF_ok, pP e, seqF_nx, ms_ret, retF_ok]
theorem e_put {O : Store} {o : Nat} {M : Int} {lw : List Nat} {s : Sta} {p : Int} {k v : List Nat} (h : Mk O o M lw s) (hs : OkS M s) (hM : M ≤ 200) (it : Itm k v) : ∃ O' told, c_Maker_put [.ob o, item p k v] O = .ok (.lst told) O' ∧ Mk O' o M (lwS M s lw k) (stp M s p k v) ∧ Prt O' told (due M s k) ∧ Sep O' o told ∧ Keeps O O' o := by
  have hlen := hs.len
  have hl : s.row.length ≤ 1000 := by omega
  have hb : ∀ x ∈ bare s, OkL x := fun x hx => by
    unfold bare at hx
    split at hx
    · cases hx
    · exact hs.ok x hx
  have hbl : (bare s).length ≤ 1000 := by
    unfold bare
    split
    · simp
    · exact hl
  have i1 : gIx (item p k v) (.int 1) = some (.str k) := rfl
  have di : ∀ O : Store, deref O (item p k v) = item p k v := fun _ => rfl
  obtain ⟨n, e, el⟩ := id h
  have fin : ∀ {told : List D} {O' : Store}, b_Maker_put [some (.ob o), some (item p k v), none, none] O = .rt (.lst told) O' → c_Maker_put [.ob o, item p k v] O = .ok (.lst told) O' := fun h => by
    show funF (b_Maker_put [some (.ob o), some (item p k v), none, none] O) = _
    rw [h]
    rfl
  obtain ⟨O1, q1, h1, k1⟩ := m_empty h
  have em : (mMeth "Maker" "empty_stale" c_Maker_empty_stale (mVar 0) maNil) [some (.ob o), some (item p k v), some (.str k), some (.lst [])] O = .ok .non O1 := by
    rw [m_meth]
    simp only [m_var, List.getElem?_cons_zero, bind_ok', e_mth (m := "empty_stale") (by decide) (by decide) (by decide) (by decide) (by decide) e, ma_nil]
    exact q1
  cases it with
  | anew =>
    have h2 : Mk (O.set o (mkO M lw n s.i s.g true)) o M lw ⟨s.row, true, s.i, s.g⟩ := ⟨n, gs' e, by rw [List.getElem?_set_ne (ne_on e el)]; exact el⟩
    obtain ⟨O', t1, t2, t3, t4, t5⟩ := m_tail (p := p) (told := []) (du := []) h2 Itm.anew (.inl ⟨rfl, rfl⟩) Sep.nil
    refine ⟨O', [], fin ?_, t2, t3, t4, (keeps_set e).trans t5⟩
    unfold b_Maker_put
    simp only [ms_seq, ms_set, m_bin, m_var, m_c, List.getElem?_cons_zero, List.getElem?_cons_succ, bind_ok', di, deref_int, i1, ofO_some, setF_ok, seqF_nx, List.set_cons_succ, List.set_cons_zero, m_lst, ma_nil, List.length_nil, Nat.zero_le, if_true, ms_if, m_test, deref_str, gEq_s, teF_bl, ifF_ok, show decide (kAnew = [101, 110, 100]) = false from rfl, show decide (kAnew = [97, 110, 101, 119]) = true from rfl, show decide (kAnew = [115, 105, 103, 110]) = false from rfl, Bool.false_eq_true, if_false, ms_fld, sfF_ok, pS e, ms_nil]
    exact t1
  | end_ =>
    have et := e_tell (w := kWhole) e
    have e1 : ((O ++ [Ob.ml []]).set o (mkO M kWhole O.length s.i s.g s.st))[o]? = some (mkO M kWhole O.length s.i s.g s.st) := gs' (ap1 e)
    have h2 : Mk ((O ++ [Ob.ml []]).set o (mkO M kWhole O.length s.i s.g false)) o M kWhole ⟨[], false, s.i, s.g⟩ := ⟨O.length, gs' (ap1 e), by rw [List.getElem?_set_ne (Nat.ne_of_lt (o_lt e))]; exact apN⟩
    obtain ⟨O', t1, t2, t3, t4, t5⟩ := m_tail (p := p) (told := [.tup [.ob n, .str kWhole]]) (du := [(s.row, kWhole)]) h2 Itm.end_ (.inr ⟨n, s.row, kWhole, rfl, rfl, by rw [List.getElem?_set_ne (ne_on e el)]; exact ap1 el, .inl rfl, hs.ok, hl⟩) (Sep.one (gs' (ap1 e)) (Nat.ne_of_gt (o_lt el)))
    refine ⟨O', [.tup [.ob n, .str kWhole]], fin ?_, t2, t3, t4, (keeps_new e).trans t5⟩
    have ct : (mMeth "Maker" "tell" c_Maker_tell (mVar 0) (maCons (mC (.str [119, 104, 111, 108, 101])) maNil)) [some (.ob o), some (item p kEnd []), some (.str kEnd), some (.lst [])] O = .ok (.lst [.tup [.ob n, .str kWhole]]) ((O ++ [Ob.ml []]).set o (mkO M kWhole O.length s.i s.g s.st)) := by
      rw [m_meth]
      simp only [m_var, List.getElem?_cons_zero, bind_ok', e_mth (m := "tell") (by decide) (by decide) (by decide) (by decide) (by decide) e, ma_cons, ma_nil, m_c]
      exact et
    unfold b_Maker_put
    simp only [ms_seq, ms_set, m_bin, m_var, m_c, List.getElem?_cons_zero, List.getElem?_cons_succ, bind_ok', di, deref_int, i1, ofO_some, setF_ok, seqF_nx, List.set_cons_succ, List.set_cons_zero, m_lst, ma_nil, List.length_nil, Nat.zero_le, if_true, ms_if, m_test, deref_str, gEq_s, teF_bl, ifF_ok, show decide (kEnd = [101, 110, 100]) = true from rfl, show decide (kEnd = [115, 105, 103, 110]) = false from rfl, ct, ms_fld, sfF_ok, pS e1, List.set_set, Bool.false_eq_true, if_false, ms_nil]
    exact t1
  | plain =>
    obtain ⟨O', t1, t2, t3, t4, t5⟩ := m_tail (p := p) (told := []) (du := []) h1 Itm.plain (.inl ⟨rfl, rfl⟩) Sep.nil
    refine ⟨O', [], fin ?_, t2, t3, t4, k1.trans t5⟩
    unfold b_Maker_put
    simp only [ms_seq, ms_set, m_bin, m_var, m_c, List.getElem?_cons_zero, List.getElem?_cons_succ, bind_ok', di, deref_int, i1, ofO_some, setF_ok, seqF_nx, List.set_cons_succ, List.set_cons_zero, m_lst, ma_nil, List.length_nil, Nat.zero_le, if_true, ms_if, m_test, deref_str, gEq_s, teF_bl, ifF_ok, show decide (kPlain = [101, 110, 100]) = false from rfl, show decide (kPlain = [97, 110, 101, 119]) = false from rfl, show decide (kPlain = [115, 105, 103, 110]) = false from rfl, Bool.false_eq_true, if_false, ms_drop, em, dropF_ok, ms_nil]
    exact t1
  | ink c hc =>
    obtain ⟨O', t1, t2, t3, t4, t5⟩ := m_tail (p := p) (told := []) (du := []) h1 (Itm.ink c hc) (.inl ⟨rfl, rfl⟩) Sep.nil
    refine ⟨O', [], fin ?_, t2, t3, t4, k1.trans t5⟩
    unfold b_Maker_put
    simp only [ms_seq, ms_set, m_bin, m_var, m_c, List.getElem?_cons_zero, List.getElem?_cons_succ, bind_ok', di, deref_int, i1, ofO_some, setF_ok, seqF_nx, List.set_cons_succ, List.set_cons_zero, m_lst, ma_nil, List.length_nil, Nat.zero_le, if_true, ms_if, m_test, deref_str, gEq_s, teF_bl, ifF_ok, show decide (kInk = [101, 110, 100]) = false from rfl, show decide (kInk = [97, 110, 101, 119]) = false from rfl, show decide (kInk = [115, 105, 103, 110]) = false from rfl, Bool.false_eq_true, if_false, ms_drop, em, dropF_ok, ms_nil]
    exact t1
  | ground c hc =>
    obtain ⟨O', t1, t2, t3, t4, t5⟩ := m_tail (p := p) (told := []) (du := []) h1 (Itm.ground c hc) (.inl ⟨rfl, rfl⟩) Sep.nil
    refine ⟨O', [], fin ?_, t2, t3, t4, k1.trans t5⟩
    unfold b_Maker_put
    simp only [ms_seq, ms_set, m_bin, m_var, m_c, List.getElem?_cons_zero, List.getElem?_cons_succ, bind_ok', di, deref_int, i1, ofO_some, setF_ok, seqF_nx, List.set_cons_succ, List.set_cons_zero, m_lst, ma_nil, List.length_nil, Nat.zero_le, if_true, ms_if, m_test, deref_str, gEq_s, teF_bl, ifF_ok, show decide (kGround = [101, 110, 100]) = false from rfl, show decide (kGround = [97, 110, 101, 119]) = false from rfl, show decide (kGround = [115, 105, 103, 110]) = false from rfl, Bool.false_eq_true, if_false, ms_drop, em, dropF_ok, ms_nil]
    exact t1
  | sign c hc =>
    obtain ⟨O2, told, a1, a2, a3, a4, a5⟩ := m_add (p := p) (c := c) h1 hbl hb
    obtain ⟨O', t1, t2, t3, t4, t5⟩ := m_tail (p := p) a2 (Itm.sign c hc) a3 a4
    obtain ⟨n1, f1, _⟩ := id h1
    have ca : (mMeth "Maker" "add_letter" c_Maker_add_letter (mVar 0) (maCons (mVar 1) maNil)) [some (.ob o), some (item p kSign [c]), some (.str kSign), some (.lst [])] O1 = .ok (.lst told) O2 := by
      rw [m_meth]
      simp only [m_var, List.getElem?_cons_zero, bind_ok', e_mth (m := "add_letter") (by decide) (by decide) (by decide) (by decide) (by decide) f1, ma_cons, ma_nil, List.getElem?_cons_succ]
      exact a1
    refine ⟨O', told, fin ?_, ?_, ?_, t4, (k1.trans a5).trans t5⟩
    · unfold b_Maker_put
      simp only [ms_seq, ms_set, m_bin, m_var, m_c, List.getElem?_cons_zero, List.getElem?_cons_succ, bind_ok', di, deref_int, i1, ofO_some, setF_ok, seqF_nx, List.set_cons_succ, List.set_cons_zero, m_lst, ma_nil, List.length_nil, Nat.zero_le, if_true, ms_if, m_test, deref_str, gEq_s, teF_bl, ifF_ok, show decide (kSign = [101, 110, 100]) = false from rfl, show decide (kSign = [97, 110, 101, 119]) = false from rfl, show decide (kSign = [115, 105, 103, 110]) = true from rfl, Bool.false_eq_true, if_false, ms_drop, em, dropF_ok, ca, ms_nil]
      exact t1
    · have d1 : stp M s p kSign [c] = stS M s p c := rfl
      have d2 : lwS M s lw kSign = if ((bare s).length : Int) = M then kMore else lw := by
        show (match dueS M s with | [(_, w)] => w | _ => lw) = _
        unfold dueS
        by_cases hm : ((bare s).length : Int) = M
        · rw [if_pos hm, if_pos hm]
        · rw [if_neg hm, if_neg hm]
      rw [d1, d2]
      have t2' : Mk O' o M (if ((bare s).length : Int) = M then kMore else lw) ⟨if ((bare s).length : Int) = M then [(c, s.i, s.g, p)] else bare s ++ [(c, s.i, s.g, p)], false, s.i, s.g⟩ := t2
      unfold stS
      by_cases hm : ((bare s).length : Int) = M
      · rw [if_pos hm, if_pos hm] at t2' ⊢
        exact t2'
      · rw [if_neg hm, if_neg hm] at t2' ⊢
        exact t2'
    · have d3 : due M s kSign = dueS M s := rfl
      rw [d3]
      unfold dueS
      exact t3
theorem floopO_ind {n : Nat} {all : List D} {g : MG} {b : MS} {O : Store} (Pv : DEnv → Prop) (h : O[n]? = some (.ml all)) (hs : ∀ d ∈ all, ∀ ρ, Pv ρ → ∃ ρ1, g d ρ = some ρ1 ∧ ∃ ρ2, b ρ1 O = .nx ρ2 O ∧ Pv ρ2) :
    ∀ (m i : Nat) (ρ : DEnv), i + m = all.length → Pv ρ → ∃ ρ', floopO n all g b (all.drop i) ρ O = .nx ρ' O ∧ Pv ρ'
  | 0, i, ρ, hi, hp => by
    refine ⟨ρ, ?_, hp⟩
    rw [List.drop_eq_nil_of_le (by omega)]
    unfold floopO
    rw [h]
    dsimp only
    rw [if_pos rfl]
  | m + 1, i, ρ, hi, hp => by
    have hlt : i < all.length := by omega
    have ed := List.getElem?_eq_getElem hlt
    obtain ⟨ρ1, e1, ρ2, e2, hp2⟩ := hs all[i] (List.getElem_mem hlt) ρ hp
    obtain ⟨ρ', e3, h3⟩ := floopO_ind Pv h hs m (i + 1) ρ2 (by omega) hp2
    refine ⟨ρ', ?_, h3⟩
    rw [List.drop_eq_getElem_cons hlt]
    unfold floopO
    rw [h]
    dsimp only
    rw [show all.length - ((all.drop (i + 1)).length + 1) = i by rw [List.length_drop]; omega, ed]
    dsimp only
    rw [e1]
    dsimp only
    rw [e2]
    exact e3
def B_lr : MS := (msSeq (msIf (mtOr (mtNot (mTru (mIsi "tuple" (mVar 2)))) (mtOr (mTest (mBin gNe (mCallB gLen (maCons (mVar 2) maNil)) (mC (.int 4)))) (mtNot (mTru (mCall c_law_whole (maCons (mBin gIx (mVar 2) (mC (.int 3))) maNil)))))) (msRet (mC (.bl false))) msNil)
    (msIf (mTest (mBin gNe (mComp (mIter (mSl (mVar 2) moN (moS (mC (.int 3))))) 1 [] (mgN 0) mYes (mIsi "str" (mVar 0))) (mLst (maCons (mC (.bl true)) (maCons (mC (.bl true)) (maCons (mC (.bl true)) maNil)))))) (msRet (mC (.bl false))) msNil))
theorem e_whole (p : Int) (O : Store) : c_law_whole [.int p] O = .ok (.bl true) O := by
  simp [c_law_whole, b_law_whole]
theorem e_lrb (x : LT) (a0 a1 : Option D) (O : Store) : B_lr [a0, a1, some (dL x)] O = .nx [a0, a1, some (dL x)] O := by
  have i3 : gIx (.tup [.str [x.1], .str [x.2.1], .str [x.2.2.1], .int x.2.2.2]) (.int 3) = some (.int x.2.2.2) := rfl
  have c3 : cutN [D.str [x.1], D.str [x.2.1], D.str [x.2.2.1], D.int x.2.2.2] none (some 3) = [.str [x.1], .str [x.2.1], .str [x.2.2.1]] := rfl
  have ok : okE (.lst [.bl true, .bl true, .bl true]) = true := rfl
  have q := eqDD_refl ok
  unfold B_lr
  simp [dL, i3, e_whole, c3, cloop, mYes, ok, q]
theorem e_lrO {O : Store} {n : Nat} (l : List LT) (hok : ∀ x ∈ l, OkL x) (h : O[n]? = some (.ml (l.map dL))) : c_law_letters_right [.ob n, .lst (l.map dL)] O = .ok (.bl true) O := by
  have ok := okE_letters l hok
  have q := eqDD_refl ok
  have dr := deref_ob h
  obtain ⟨ρ', e, o2, rfl⟩ := floopO_ind (g := mgN 2) (b := B_lr) (fun ρ => ∃ o2, ρ = [some (.ob n), some (.lst (l.map dL)), o2]) h (by
    rintro d hd ρ ⟨o2, rfl⟩
    obtain ⟨x, _, rfl⟩ := List.mem_map.mp hd
    exact ⟨_, rfl, _, e_lrb x _ _ O, _, rfl⟩) (l.map dL).length 0 [some (.ob n), some (.lst (l.map dL)), none] (by omega) ⟨none, rfl⟩
  rw [List.drop_zero] at e
  have ef : msForD (mVar 0) (mgN 2) B_lr [some (.ob n), some (.lst (l.map dL)), none] O = .nx [some (.ob n), some (.lst (l.map dL)), o2] O := by
    unfold msForD
    simp only [m_var, List.getElem?_cons_zero]
    rw [h]
    exact e
  unfold B_lr at ef
  simp only [c_law_letters_right, b_law_letters_right, m_fun, List.map_cons, List.map_nil, List.length_cons, List.length_nil, List.replicate, List.cons_append, List.nil_append, ms_seq, ms_if, mt_or, mt_not, m_tru, m_isi, m_var, List.getElem?_cons_zero, List.getElem?_cons_succ, bind_ok', dr, deref_lst, tyD_lst, isF_some, isTy_11, deref_bl, truD_bl, ofB_some, Bool.not_true, Bool.false_eq_true, if_false, m_test, m_bin, m_callB, ma_cons, ma_nil, gLen_l, ofO_some, deref_int, gNe_i, decide_true, teF_bl, ifF_ok, ms_nil, seqF_nx, ef, ms_ret, gEq_l, ok, q, Bool.and_self, if_true, retF_ok, funF_rt]
def B_pr : MS := (msSeq (msIf (mtOr (mtNot (mTru (mIsi "tuple" (mVar 2)))) (mtOr (mTest (mBin gNe (mCallB gLen (maCons (mVar 2) maNil)) (mC (.int 2)))) (mTest (mBin gNe (mBin gIx (mVar 2) (mC (.int 1))) (mBin gIx (mVar 3) (mC (.int 1))))))) (msRet (mC (.bl false))) msNil)
    (msIf (mtNot (mTru (mCall c_law_letters_right (maCons (mBin gIx (mVar 2) (mC (.int 0))) (maCons (mBin gIx (mVar 3) (mC (.int 0))) maNil))))) (msRet (mC (.bl false))) msNil))
theorem OkS.stp {M : Int} {s : Sta} (h : OkS M s) (hM : 1 ≤ M) {p : Int} {k v : List Nat} (it : Itm k v) : OkS M (stp M s p k v) := by
  have hb : ∀ x ∈ bare s, OkL x := fun x hx => by
    unfold bare at hx
    split at hx
    · cases hx
    · exact h.ok x hx
  have hbl : ((bare s).length : Int) ≤ M := by
    unfold bare
    split
    · simp; omega
    · exact h.len
  cases it with
  | anew => exact ⟨h.len, h.ok, (show 46 ≤ 125 by decide), (show 46 ≤ 125 by decide)⟩
  | end_ => exact ⟨(show ((0 : Nat) : Int) ≤ M by omega), (fun x (hx : x ∈ []) => nomatch hx), (show 46 ≤ 125 by decide), (show 46 ≤ 125 by decide)⟩
  | plain => exact ⟨hbl, hb, (show 46 ≤ 125 by decide), (show 46 ≤ 125 by decide)⟩
  | ink c hc => exact ⟨hbl, hb, hc, h.g⟩
  | ground c hc => exact ⟨hbl, hb, h.i, hc⟩
  | sign c hc =>
    show OkS M (stS M s p c)
    unfold stS
    split
    · refine ⟨by show ((1 : Nat) : Int) ≤ M; omega, ?_, h.i, h.g⟩
      intro x hx
      rw [List.mem_singleton.mp hx]
      exact ⟨hc, h.i, h.g⟩
    · rename_i hm
      refine ⟨by show ((bare s ++ [(c, s.i, s.g, p)]).length : Int) ≤ M; rw [List.length_append]; simp only [List.length_singleton]; omega, ?_, h.i, h.g⟩
      intro x hx
      rcases List.mem_append.mp hx with hx | hx
      · exact hb x hx
      · rw [List.mem_singleton.mp hx]
        exact ⟨hc, h.i, h.g⟩
theorem ixS {l : List Nat} {v n : Int} (hl : l.length ≤ 1000000) (h : (l.length : Int) = n) (hn : 0 < n) : ∃ c, c ∈ l ∧ gIx (.str l) (.int (v % n)) = some (.str [c]) := by
  obtain ⟨c, h1, h2⟩ := atI_in (xs := l) (i := v % n) (Int.emod_nonneg _ (by omega)) (by rw [h]; exact Int.emod_lt_of_pos _ hn)
  exact ⟨c, h2, by rw [gIx_s, if_pos hl, h1]; rfl⟩
theorem ixL {l : List D} {v n : Int} (h : (l.length : Int) = n) (hn : 0 < n) : ∃ c, c ∈ l ∧ gIx (.lst l) (.int (v % n)) = some c := by
  obtain ⟨c, h1, h2⟩ := atI_in (xs := l) (i := v % n) (Int.emod_nonneg _ (by omega)) (by rw [h]; exact Int.emod_lt_of_pos _ hn)
  exact ⟨c, h2, h1⟩
theorem e_mix (n k : Int) (h0 : 0 ≤ k) (h1 : k ≤ 1000000) (O : Store) : c_law_mix [.int n, .int k] O = .ok (.int (mix n k)) O := mix_eq n k h0 h1 O
theorem e_cell (ns : List Int) (O : Store) : ∃ v, c_law_cell [.lst (ns.map D.int), .int 0] O = .ok (.int v) O := by
  cases ns with
  | nil => exact ⟨0, by simp [c_law_cell, b_law_cell]⟩
  | cons n ns =>
    have i0 : gIx (.lst (D.int n :: ns.map D.int)) (.int 0) = some (.int n) := by
      have := atI_ofNat (xs := D.int n :: ns.map D.int) (j := 0)
      rw [gIx_l]
      exact this
    refine ⟨n, ?_⟩
    simp [c_law_cell, b_law_cell, i0]
abbrev It3 := Int × List Nat × List Nat
def itD (x : It3) : D := item x.1 x.2.1 x.2.2
theorem pG {O : Store} {o : Nat} {fs : List (Str × D)} {f : Str} {d : D} {ρ : DEnv} (e : O[o]? = some (.ins "Maker" fs)) (h : fs.length < 900) : puF ["Maker"] f d ρ (.ok (.ob o) O) = .nx ρ (O.set o (.ins "Maker" (putD f d fs))) := by
  unfold puF
  dsimp only
  rw [e]
  dsimp only
  rw [if_pos ⟨by simp, h⟩]
theorem e_beginG {O : Store} {o : Nat} {M : Int} {lw : List Nat} (e : O[o]? = some (.ins "Maker" [("most", .int M), ("last_word", .str lw)])) : c_Maker_begin_row [.ob o] O = .ok .non ((O ++ [Ob.ml []]).set o (mkO M lw O.length 46 46 false)) := by
  have e1 : (O ++ [Ob.ml []])[o]? = some (.ins "Maker" [("most", .int M), ("last_word", .str lw)]) := ap1 e
  have p1 := fun ρ => pG (f := "letters") (d := .ob O.length) (ρ := ρ) e1 (by simp)
  have e2 := gs' (y := .ins "Maker" (putD "letters" (.ob O.length) [("most", .int M), ("last_word", .str lw)])) e1
  have p2 := fun ρ => pG (f := "pair") (d := .tup [.str [46], .str [46]]) (ρ := ρ) e2 (by show 3 < 900; decide)
  have e3 := gs' (y := .ins "Maker" (putD "pair" (.tup [.str [46], .str [46]]) (putD "letters" (.ob O.length) [("most", .int M), ("last_word", .str lw)]))) e1
  have p3 := fun ρ => pG (f := "stale") (d := .bl false) (ρ := ρ) e3 (by show 4 < 900; decide)
  have fe : Ob.ins "Maker" (putD "stale" (.bl false) (putD "pair" (.tup [.str [46], .str [46]]) (putD "letters" (.ob O.length) [("most", .int M), ("last_word", .str lw)]))) = mkO M lw O.length 46 46 false := rfl
  rw [fe] at p3
  show funF (b_Maker_begin_row [some (.ob o)] O) = _
  unfold b_Maker_begin_row
  simp only [ms_seq, ms_fld, m_ml, m_lst, ma_nil, bind_ok', List.length_nil, Nat.zero_le, if_true, sfF_ok, m_var, List.getElem?_cons_zero, p1, seqF_nx, m_c, p2, p3, funF_nx, List.set_set]
theorem e_within (M : Int) (h : 1 ≤ M ∧ M ≤ 200) (O : Store) : c_is_within [.int M, .int 1, .int 200] O = .ok (.bl true) O := by
  simp [c_is_within, b_is_within, c_is_whole, b_is_whole, h]
theorem e_newM (M : Int) (h : 1 ≤ M ∧ M ≤ 200) (O : Store) (ρ : DEnv) (hρ : ∀ O, mVar 1 ρ O = .ok (.int M) O) : ∃ O' n, mMake "Maker" c_Maker___init__ (maCons (mVar 1) maNil) ρ O = .ok (.ob O.length) O' ∧ O'[O.length]? = some (mkO M kWhole n 46 46 false) ∧ O'[n]? = some (.ml []) ∧ O.length < n ∧ ∀ (m : Nat) (x : Ob), O[m]? = some x → O'[m]? = some x := by
  have e0 : (O ++ [Ob.ins "Maker" []])[O.length]? = some (.ins "Maker" []) := apN
  have p0 := fun ρ => pG (f := "most") (d := .int M) (ρ := ρ) e0 (by decide)
  have e1 := gs' (y := .ins "Maker" (putD "most" (.int M) [])) e0
  have p1 := fun ρ => pG (f := "last_word") (d := .str kWhole) (ρ := ρ) e1 (by show 1 < 900; decide)
  have e2 : (((O ++ [Ob.ins "Maker" []]).set O.length (.ins "Maker" (putD "most" (.int M) []))).set O.length (.ins "Maker" (putD "last_word" (.str kWhole) (putD "most" (.int M) []))))[O.length]? = some (.ins "Maker" [("most", .int M), ("last_word", .str kWhole)]) := gs' e1
  have eb := e_beginG e2
  have em : ∀ (O' : Store) (a1 : Option D), O'[O.length]? = some (.ins "Maker" [("most", .int M), ("last_word", .str kWhole)]) → (mMeth "Maker" "begin_row" c_Maker_begin_row (mVar 0) maNil) [some (.ob O.length), a1] O' = c_Maker_begin_row [.ob O.length] O' := fun O' a1 h' => by
    rw [m_meth]
    simp only [m_var, List.getElem?_cons_zero, bind_ok']
    unfold meF
    dsimp only
    rw [h']
    rfl
  have ei : c_Maker___init__ [.ob O.length, .int M] (O ++ [Ob.ins "Maker" []]) = .ok .non ((((O ++ [Ob.ins "Maker" []]).set O.length (.ins "Maker" (putD "most" (.int M) []))).set O.length (.ins "Maker" (putD "last_word" (.str kWhole) (putD "most" (.int M) []))) ++ [Ob.ml []]).set O.length (mkO M kWhole (((O ++ [Ob.ins "Maker" []]).set O.length (.ins "Maker" (putD "most" (.int M) []))).set O.length (.ins "Maker" (putD "last_word" (.str kWhole) (putD "most" (.int M) [])))).length 46 46 false)) := by
    show funF (b_Maker___init__ [some (.ob O.length), some (.int M)] (O ++ [Ob.ins "Maker" []])) = _
    unfold b_Maker___init__
    have p1' : ∀ ρ, puF ["Maker"] "last_word" (.str [119, 104, 111, 108, 101]) ρ (.ok (.ob O.length) ((O ++ [Ob.ins "Maker" []]).set O.length (.ins "Maker" (putD "most" (.int M) [])))) = _ := p1
    simp only [ms_seq, ms_if, mt_not, m_tru, m_call, ma_cons, ma_nil, m_var, m_c, List.getElem?_cons_zero, List.getElem?_cons_succ, bind_ok', e_within M h, deref_bl, truD_bl, ofB_some, Bool.not_true, ifF_ok, Bool.false_eq_true, if_false, ms_nil, seqF_nx, ms_fld, m_g, gF_int, sfF_ok, p0, p1', ms_drop, em _ _ e2, eb, dropF_ok, funF_nx]
  obtain ⟨O', hO'⟩ : ∃ O', O' = ((((O ++ [Ob.ins "Maker" []]).set O.length (.ins "Maker" (putD "most" (.int M) []))).set O.length (.ins "Maker" (putD "last_word" (.str kWhole) (putD "most" (.int M) []))) ++ [Ob.ml []]).set O.length (mkO M kWhole (((O ++ [Ob.ins "Maker" []]).set O.length (.ins "Maker" (putD "most" (.int M) []))).set O.length (.ins "Maker" (putD "last_word" (.str kWhole) (putD "most" (.int M) [])))).length 46 46 false)) := ⟨_, rfl⟩
  rw [← hO'] at ei
  refine ⟨O', _, ?_, by rw [hO']; exact gs' (ap1 e2), ?_, by simp, fun m x hx => ?_⟩
  · rw [m_make]
    simp only [ma_cons, ma_nil, hρ, bind_ok', ei, mkF_ok]
  · rw [hO', List.getElem?_set_ne (by simp)]
    exact apN
  · have hm := (List.getElem?_eq_some_iff.mp hx).1
    rw [hO', List.getElem?_set_ne (by omega), List.getElem?_append_left (by simp; omega), List.getElem?_set_ne (by omega), List.getElem?_set_ne (by omega)]
    exact ap1 hx
def OkDue (x : List LT × List Nat) : Prop := (∀ y ∈ x.1, OkL y) ∧ (x.2 = kWhole ∨ x.2 = kMore)
theorem e_items_of2 (t : List Nat) (ht : Okt t) (O : Store) : ∃ O', c_items_of [.str t] O = .ok (.lst (items 0 t)) O' ∧ ∀ (n : Nat) (x : Ob), O[n]? = some x → O'[n]? = some x := by
  obtain ⟨H, q⟩ := run_all t
  have f1 := e_feed (new_at O) Held.h0 t ht
  have e2 : ((O ++ [RO [] 0]).set O.length (RO (runT [] 0 t).2 (0 + t.length)))[O.length]? = some (RO (runT [] 0 t).2 (0 + t.length)) := gs (new_at O)
  have f2 := e_finish e2 H
  have hl := ht.len
  have l1 := runT_len t Held.h0 0
  have l2 := H.len
  have z : (runT [] 0 t).1.length + (owns (0 + (t.length : Int) - ((runT [] 0 t).2.length : Int)) (runT [] 0 t).2).length ≤ 1000000 := by
    rw [owns_len]; omega
  rw [q]
  have z' := Int.zero_add (t.length : Int)
  rw [z'] at f1 f2 e2 z
  refine ⟨((O ++ [RO [] 0]).set O.length (RO (runT [] 0 t).2 t.length)).set O.length (RO [] t.length), ?_, fun n x hx => ?_⟩
  · simp only [c_items_of, b_items_of, m_fun, List.map_cons, List.map_nil, List.length_cons, List.length_nil, List.replicate, List.cons_append, List.nil_append, ms_seq, ms_set, e_new, setF_ok, seqF_nx, List.set_cons_succ, List.set_cons_zero, m_meth, m_var, List.getElem?_cons_zero, List.getElem?_cons_succ, bind_ok', e_meth (show ("feed" : Str) ≠ "held" by decide) (by decide) (new_at O), ma_cons, ma_nil, f1, ms_ret, m_bin, e_meth (show ("finish" : Str) ≠ "held" by decide) (by decide) e2, f2, deref_lst, gAdd_l, if_pos z, ofO_some, retF_ok, funF_rt]
  · have hn := (List.getElem?_eq_some_iff.mp hx).1
    rw [List.getElem?_set_ne (by omega), List.getElem?_set_ne (by omega), List.getElem?_append_left hn]
    exact hx
theorem one_itm {c : Nat} {r : List Nat} (h : ∀ x ∈ c :: r, x ≤ 125) : Itm (one c r).1 (one c r).2.1 := by
  have hc := h c List.mem_cons_self
  have s91 : Itm kSign [91] := Itm.sign 91 (by decide)
  unfold one
  split
  · exact Itm.end_
  split
  · exact Itm.anew
  split
  · unfold oneB
    cases r with
    | nil => exact s91
    | cons d r =>
      have hd := h d (by simp)
      dsimp only
      split
      · exact Itm.plain
      split
      · exact s91
      split
      · unfold oneC
        cases r with
        | nil => exact s91
        | cons e r =>
          dsimp only
          split
          · exact Itm.ink d hd
          · exact s91
      split
      · unfold oneH
        cases r with
        | nil => exact s91
        | cons e r =>
          have he := h e (by simp)
          dsimp only
          split
          · unfold oneG
            cases r with
            | nil => exact s91
            | cons f r =>
              dsimp only
              split
              · exact Itm.ground e he
              · exact s91
          · exact s91
      · exact s91
  · exact Itm.sign c hc
theorem items_it : ∀ (n : Nat) (t : List Nat) (p : Int), t.length ≤ n → (∀ c ∈ t, c ≤ 125) → ∃ its : List It3, items p t = its.map itD ∧ (∀ x ∈ its, Itm x.2.1 x.2.2) ∧ its.length ≤ t.length
  | 0, [], p, _, _ => ⟨[], by rw [items_nil]; rfl, by simp, Nat.le_refl _⟩
  | 0, c :: t, p, h, _ => by simp at h
  | n + 1, [], p, _, _ => ⟨[], by rw [items_nil]; rfl, by simp, Nat.le_refl _⟩
  | n + 1, c :: t, p, h, hc => by
    simp only [List.length_cons] at h
    obtain ⟨its, e, hi, hl⟩ := items_it n (t.drop (one c t).2.2) (p + ((one c t).2.2 + 1 : Nat)) (by rw [List.length_drop]; omega) (fun x hx => hc x (List.mem_cons_of_mem _ (List.mem_of_mem_drop hx)))
    refine ⟨(p, (one c t).1, (one c t).2.1) :: its, by rw [items_cons, e]; rfl, fun x hx => ?_, by rw [List.length_drop] at hl; simp only [List.length_cons]; omega⟩
    rcases List.mem_cons.mp hx with rfl | hx
    · exact one_itm hc
    · exact hi x hx
abbrev Du := List LT × List Nat
def rn (M : Int) : Sta → List It3 → Sta × List Du
  | s, [] => (s, [])
  | s, x :: xs => ((rn M (stp M s x.1 x.2.1 x.2.2) xs).1, due M s x.2.1 ++ (rn M (stp M s x.1 x.2.1 x.2.2) xs).2)
def s0 : Sta := ⟨[], false, 46, 46⟩
theorem s0_ok {M : Int} (h : 1 ≤ M) : OkS M s0 := ⟨(show ((0 : Nat) : Int) ≤ M by omega), (fun x (hx : x ∈ []) => nomatch hx), (show 46 ≤ 125 by decide), (show 46 ≤ 125 by decide)⟩
theorem due_len (M : Int) (s : Sta) (k : List Nat) : (due M s k).length ≤ 1 := by
  unfold due dueS
  split
  · simp
  · split
    · split <;> simp
    · simp
theorem rn_ok {M : Int} (hM : 1 ≤ M) : ∀ (its : List It3) (s : Sta), OkS M s → (∀ x ∈ its, Itm x.2.1 x.2.2) → OkS M (rn M s its).1 ∧ (rn M s its).2.length ≤ its.length
  | [], s, h, _ => ⟨h, Nat.le_refl _⟩
  | x :: xs, s, h, hi => by
    obtain ⟨a, b⟩ := rn_ok hM xs _ (h.stp hM (p := x.1) (hi x List.mem_cons_self)) (fun y hy => hi y (List.mem_cons_of_mem _ hy))
    have := due_len M s x.2.1
    refine ⟨a, ?_⟩
    simp only [rn, List.length_append, List.length_cons]
    omega
def B_lp : MS := (msSeq (msIf (mtAnd (mTru (mVar 4)) (mtAnd (mTest (mBin gNe (mVar 7) (mC (.str [101, 110, 100])))) (mTest (mBin gNe (mVar 7) (mC (.str [97, 110, 101, 119])))))) (msSeq (msSet 3 (mLst maNil))
    (msSet 4 (mC (.bl false)))) msNil)
    (msSeq (msIf (mTest (mBin gEq (mVar 7) (mC (.str [115, 105, 103, 110])))) (msSeq (msIf (mTest (mBin gEq (mCallB gLen (maCons (mVar 3) maNil)) (mVar 1))) (msSeq (msApp 2 (mTup (maCons (mVar 3) (maCons (mC (.str [109, 111, 114, 101])) maNil))))
    (msSet 3 (mLst maNil))) msNil)
    (msSet 3 (mBin gAdd (mVar 3) (mLst (maCons (mTup (maCons (mVar 8) (maCons (mBin gIx (mVar 5) (mC (.int 0))) (maCons (mBin gIx (mVar 5) (mC (.int 1))) (maCons (mVar 6) maNil))))) maNil))))) (msIf (mTest (mBin gEq (mVar 7) (mC (.str [105, 110, 107])))) (msSetIx 5 (mC (.int 0)) (mVar 8)) (msIf (mTest (mBin gEq (mVar 7) (mC (.str [103, 114, 111, 117, 110, 100])))) (msSetIx 5 (mC (.int 1)) (mVar 8)) (msSet 5 (mLst (maCons (mC (.str [46])) (maCons (mC (.str [46])) maNil)))))))
    (msSeq (msIf (mTest (mBin gEq (mVar 7) (mC (.str [97, 110, 101, 119])))) (msSet 4 (mC (.bl true))) msNil)
    (msIf (mTest (mBin gEq (mVar 7) (mC (.str [101, 110, 100])))) (msSeq (msApp 2 (mTup (maCons (mVar 3) (maCons (mC (.str [119, 104, 111, 108, 101])) maNil))))
    (msSeq (msSet 3 (mLst maNil))
    (msSet 4 (mC (.bl false))))) msNil))))
theorem turn_lp (s : Sta) (M p : Int) (k v : List Nat) (h : Itm k v) (hl : s.row.length ≤ 1000) (acc : List Du) (ha : acc.length ≤ 10000) (a0 : Option D) (O : Store) :
    B_lp [a0, some (.int M), some (.lst (acc.map dueD)), some (.lst (s.row.map dL)), some (.bl s.st), some (.lst [.str [s.i], .str [s.g]]), some (.int p), some (.str k), some (.str v)] O = .nx [a0, some (.int M), some (.lst ((acc ++ due M s k).map dueD)), some (.lst ((stp M s p k v).row.map dL)), some (.bl (stp M s p k v).st), some (.lst [.str [(stp M s p k v).i], .str [(stp M s p k v).g]]), some (.int p), some (.str k), some (.str v)] O := by
  have hz : acc.length < 1000000 := by omega
  have i0 : ∀ a b : D, gIx (.lst [a, b]) (.int 0) = some a := fun _ _ => rfl
  have i1 : ∀ a b : D, gIx (.lst [a, b]) (.int 1) = some b := fun _ _ => rfl
  have x0 : ixN 2 0 = some 0 := rfl
  have x1 : ixN 2 1 = some 1 := rfl
  unfold B_lp
  cases h with
  | anew => cases hs : s.st <;> simp [stp, due, kAnew, kEnd, kSign, kInk, kGround, kPlain]
  | end_ => cases hs : s.st <;> simp [stp, due, dueD, kAnew, kEnd, kSign, kInk, kGround, kPlain, kWhole, apF, hz]
  | plain => cases hs : s.st <;> simp [stp, due, bare, kAnew, kEnd, kSign, kInk, kGround, kPlain, hs]
  | ink c hc => cases hs : s.st <;> simp [stp, due, bare, kAnew, kEnd, kSign, kInk, kGround, kPlain, hs, msSetIx, x0]
  | ground c hc => cases hs : s.st <;> simp [stp, due, bare, kAnew, kEnd, kSign, kInk, kGround, kPlain, hs, msSetIx, x1]
  | sign c hc =>
    cases hs : s.st with
    | true =>
      by_cases hm : (0 : Int) = M
      · subst hm
        simp [stp, stS, due, dueS, dueD, bare, dL, kAnew, kEnd, kSign, kInk, kGround, kPlain, kMore, hs, i0, i1, apF, hz]
      · simp [stp, stS, due, dueS, dueD, bare, dL, kAnew, kEnd, kSign, kInk, kGround, kPlain, kMore, hs, hm, i0, i1]
    | false =>
      by_cases hm : (s.row.length : Int) = M
      · simp [stp, stS, due, dueS, dueD, bare, dL, kAnew, kEnd, kSign, kInk, kGround, kPlain, kMore, hs, hm, i0, i1, apF, hz]
      · simp [stp, stS, due, dueS, dueD, bare, dL, kAnew, kEnd, kSign, kInk, kGround, kPlain, kMore, hs, hm, i0, i1]
        intro hx
        omega
theorem lp_loop {M : Int} (hM : 1 ≤ M ∧ M ≤ 200) (a0 : Option D) (O : Store) : ∀ (its : List It3) (s : Sta) (acc : List Du) (o6 o7 o8 : Option D), OkS M s → (∀ x ∈ its, Itm x.2.1 x.2.2) → acc.length + its.length ≤ 10000 →
    ∃ o6' o7' o8', floop (mgN' 3 (mgsCons (mgN 6) (mgsCons (mgN 7) (mgsCons (mgN 8) mgsNil)))) B_lp (its.map itD) [a0, some (.int M), some (.lst (acc.map dueD)), some (.lst (s.row.map dL)), some (.bl s.st), some (.lst [.str [s.i], .str [s.g]]), o6, o7, o8] O = .nx [a0, some (.int M), some (.lst ((acc ++ (rn M s its).2).map dueD)), some (.lst ((rn M s its).1.row.map dL)), some (.bl (rn M s its).1.st), some (.lst [.str [(rn M s its).1.i], .str [(rn M s its).1.g]]), o6', o7', o8'] O
  | [], s, acc, o6, o7, o8, _, _, _ => ⟨o6, o7, o8, by show Fl.nx _ O = _; simp [rn]⟩
  | x :: its, s, acc, o6, o7, o8, hs, hi, hl => by
    have it := hi x List.mem_cons_self
    simp only [List.length_cons] at hl
    have hlen := hs.len
    have dl := due_len M s x.2.1
    have e1 := turn_lp s M x.1 x.2.1 x.2.2 it (by omega) acc (by omega) a0 O
    obtain ⟨o6', o7', o8', e2⟩ := lp_loop hM a0 O its (stp M s x.1 x.2.1 x.2.2) (acc ++ due M s x.2.1) (some (.int x.1)) (some (.str x.2.1)) (some (.str x.2.2)) (hs.stp hM.1 it) (fun y hy => hi y (List.mem_cons_of_mem _ hy)) (by rw [List.length_append]; omega)
    refine ⟨o6', o7', o8', ?_⟩
    show floop _ _ (itD x :: its.map itD) _ O = _
    unfold floop
    rw [show mgN' 3 (mgsCons (mgN 6) (mgsCons (mgN 7) (mgsCons (mgN 8) mgsNil))) (itD x) _ = _ from mg_3]
    dsimp only
    show (match B_lp [a0, some (.int M), some (.lst (acc.map dueD)), some (.lst (s.row.map dL)), some (.bl s.st), some (.lst [.str [s.i], .str [s.g]]), some (.int x.1), some (.str x.2.1), some (.str x.2.2)] O with
      | .nx ρ' O' => floop _ _ (its.map itD) ρ' O' | .ct ρ' O' => floop _ _ (its.map itD) ρ' O' | .bk ρ' O' => Fl.nx ρ' O' | r => r) = _
    rw [e1]
    dsimp only
    rw [e2, List.append_assoc]
    rfl
theorem e_lparts {M : Int} (hM : 1 ≤ M ∧ M ≤ 200) (its : List It3) (hi : ∀ x ∈ its, Itm x.2.1 x.2.2) (hl : its.length ≤ 5000) (O : Store) : c_law_parts [.lst (its.map itD), .int M] O = .ok (.tup [.lst ((rn M s0 its).2.map dueD), .lst ((rn M s0 its).1.row.map dL)]) O := by
  obtain ⟨o6, o7, o8, e⟩ := lp_loop hM (some (.lst (its.map itD))) O its s0 [] none none none (s0_ok hM.1) hi (by simp; omega)
  have e' : floop (mgN' 3 (mgsCons (mgN 6) (mgsCons (mgN 7) (mgsCons (mgN 8) mgsNil)))) B_lp (its.map itD) [some (.lst (its.map itD)), some (.int M), some (.lst []), some (.lst []), some (.bl false), some (.lst [.str [46], .str [46]]), none, none, none] O = _ := e
  unfold B_lp at e'
  show funF (b_law_parts [some (.lst (its.map itD)), some (.int M), none, none, none, none, none, none, none] O) = _
  unfold b_law_parts
  simp only [ms_seq, ms_set, m_lst, ma_cons, ma_nil, m_c, bind_ok', List.length_cons, List.length_nil, Nat.zero_le, Nat.reduceAdd, Nat.reduceLeDiff, if_true, setF_ok, seqF_nx, List.set_cons_succ, List.set_cons_zero, ms_for, m_iter, m_var, List.getElem?_cons_zero, List.getElem?_cons_succ, iterD_lst, itF_some, forF_ok, e', ms_fz, ms_ret, m_tup, retF_ok, fzF_rt, funF_rt, List.nil_append]
def TD (O : Store) (o : Nat) : List D → List Du → Prop
  | [], [] => True
  | d :: T, x :: Ds => (∃ n, d = .tup [.ob n, .str x.2] ∧ Old O o n (x.1.map dL)) ∧ OkDue x ∧ TD O o T Ds
  | _, _ => False
theorem TD.keeps {O O' : Store} {o : Nat} (k : Keeps O O' o) : ∀ {T : List D} {Ds : List Du}, TD O o T Ds → TD O' o T Ds
  | [], [], _ => trivial
  | d :: T, x :: Ds, h => by
    obtain ⟨⟨n, e, ho⟩, hk, ht⟩ := h
    exact ⟨⟨n, e, k n _ ho⟩, hk, TD.keeps k ht⟩
  | [], _ :: _, h => h.elim
  | _ :: _, [], h => h.elim
theorem TD.app {O : Store} {o : Nat} {T' : List D} {Ds' : List Du} (h' : TD O o T' Ds') : ∀ {T : List D} {Ds : List Du}, TD O o T Ds → TD O o (T ++ T') (Ds ++ Ds')
  | [], [], _ => h'
  | d :: T, x :: Ds, h => ⟨h.1, h.2.1, TD.app h' h.2.2⟩
  | [], _ :: _, h => h.elim
  | _ :: _, [], h => h.elim
theorem TD.len {O : Store} {o : Nat} : ∀ {T : List D} {Ds : List Du}, TD O o T Ds → T.length = Ds.length
  | [], [], _ => rfl
  | d :: T, x :: Ds, h => by simp [TD.len h.2.2]
  | [], _ :: _, h => h.elim
  | _ :: _, [], h => h.elim
theorem td_put {O : Store} {o : Nat} {M : Int} {lw : List Nat} {s : Sta} {told : List D} {du : List Du} (m : Mk O o M lw s) (p : Prt O told du) (sp : Sep O o told) : TD O o told du := by
  rcases p with ⟨rfl, rfl⟩ | ⟨n, r, w, rfl, rfl, h3, h4, h5, _⟩
  · trivial
  · obtain ⟨k, e, _⟩ := m
    exact ⟨⟨n, rfl, old_mk h3 e (sp n w rfl _ _ _ _ _ _ e)⟩, ⟨h5, h4⟩, trivial⟩
theorem ro_loop {o : Nat} {M : Int} (hM : 1 ≤ M ∧ M ≤ 200) (a0 a1 : Option D) : ∀ (its : List It3) (O : Store) (lw : List Nat) (s : Sta) (T : List D) (Ds : List Du) (o4 : Option D), (∀ x ∈ its, Itm x.2.1 x.2.2) → T.length + its.length ≤ 10000 → Mk O o M lw s → OkS M s → TD O o T Ds →
    ∃ O' lw' T' o4', floop (mgN 4) (msExt 3 (mMeth "Maker" "put" c_Maker_put (mVar 2) (maCons (mVar 4) maNil))) (its.map itD) [a0, a1, some (.ob o), some (.lst T), o4] O = .nx [a0, a1, some (.ob o), some (.lst T'), o4'] O' ∧ Mk O' o M lw' (rn M s its).1 ∧ TD O' o T' (Ds ++ (rn M s its).2) ∧ Keeps O O' o
  | [], O, lw, s, T, Ds, o4, _, _, h, _, td => ⟨O, lw, T, o4, rfl, h, by simpa [rn] using td, Keeps.refl⟩
  | x :: its, O, lw, s, T, Ds, o4, hi, hl, h, hs, td => by
    have it := hi x List.mem_cons_self
    simp only [List.length_cons] at hl
    obtain ⟨O1, told, q, m1, p1, sp, kp⟩ := e_put (p := x.1) h hs hM.2 it
    obtain ⟨n, e, _⟩ := id h
    have td1 := td_put m1 p1 sp
    have tl := td1.len
    have dl := due_len M s x.2.1
    obtain ⟨O', lw', T', o4', e2, h2, h3, h4⟩ := ro_loop hM a0 a1 its O1 _ _ (T ++ told) (Ds ++ due M s x.2.1) (some (itD x)) (fun y hy => hi y (List.mem_cons_of_mem _ hy)) (by rw [List.length_append]; omega) m1 (hs.stp hM.1 it) (TD.app td1 (td.keeps kp))
    refine ⟨O', lw', T', o4', ?_, h2, ?_, kp.trans h4⟩
    · have eb : (msExt 3 (mMeth "Maker" "put" c_Maker_put (mVar 2) (maCons (mVar 4) maNil))) [a0, a1, some (.ob o), some (.lst T), some (itD x)] O = .nx [a0, a1, some (.ob o), some (.lst (T ++ told)), some (itD x)] O1 := by
        rw [ms_ext, m_meth]
        simp only [m_var, List.getElem?_cons_zero, List.getElem?_cons_succ, bind_ok', e_mth (m := "put") (by decide) (by decide) (by decide) (by decide) (by decide) e, ma_cons, ma_nil]
        have q' : c_Maker_put [.ob o, itD x] O = .ok (.lst told) O1 := q
        rw [q', exF_ok (ds := T) rfl (by omega)]
        rfl
      show floop _ _ (itD x :: its.map itD) _ O = _
      unfold floop
      rw [mg_n]
      dsimp only
      show (match (msExt 3 (mMeth "Maker" "put" c_Maker_put (mVar 2) (maCons (mVar 4) maNil))) [a0, a1, some (.ob o), some (.lst T), some (itD x)] O with
        | .nx ρ' O' => floop _ _ (its.map itD) ρ' O' | .ct ρ' O' => floop _ _ (its.map itD) ρ' O' | .bk ρ' O' => Fl.nx ρ' O' | r => r) = _
      rw [eb]
      exact e2
    · have : Ds ++ (rn M s (x :: its)).2 = Ds ++ due M s x.2.1 ++ (rn M (stp M s x.1 x.2.1 x.2.2) its).2 := by simp [rn]
      rw [this]
      exact h3
theorem keeps_snoc {O : Store} {o : Nat} {M : Int} {lw : List Nat} {n i g : Nat} {st : Bool} {x : Ob} (e : O[o]? = some (mkO M lw n i g st)) : Keeps O (O ++ [x]) o := fun m ds h => old_mk (ap1 h.1) (ap1 e) (h.2 _ _ _ _ _ _ e)
theorem e_rows {M : Int} (hM : 1 ≤ M ∧ M ≤ 200) (t : List Nat) (ht : Okt t) (its : List It3) (hit : items 0 t = its.map itD) (hi : ∀ x ∈ its, Itm x.2.1 x.2.2) (hl : its.length ≤ 5000) (O : Store) :
    ∃ O' o no T, c_rows_of [.str t, .int M] O = .ok (.tup [.lst T, .ob no]) O' ∧ TD O' o T (rn M s0 its).2 ∧ O'[no]? = some (.ml ((rn M s0 its).1.row.map dL)) ∧ ∀ (m : Nat) (ds : List D), O[m]? = some (.ml ds) → O'[m]? = some (.ml ds) := by
  obtain ⟨O1, n0, en, m0, m0', nlt, k0⟩ := e_newM M hM O [some (.str t), some (.int M), none, none, none] (fun _ => rfl)
  obtain ⟨O2, ei, keep⟩ := e_items_of2 t ht O1
  rw [hit] at ei
  have m1 : Mk O2 O.length M kWhole s0 := ⟨n0, keep _ _ m0, keep _ _ m0'⟩
  obtain ⟨O3, lw, T, o4, e, m3, td, kp3⟩ := ro_loop hM (some (.str t)) (some (.int M)) its O2 kWhole s0 [] [] none hi (by simp; omega) m1 (s0_ok hM.1) trivial
  obtain ⟨n, f1, f2⟩ := id m3
  have eo := e_open f1 f2
  rw [List.nil_append] at td
  refine ⟨O3 ++ [.ml ((rn M s0 its).1.row.map dL)], O.length, O3.length, T, ?_, td.keeps (keeps_snoc f1), apN, fun m ds hm => ap1 (kp3 m ds (old_mk (keep _ _ (k0 m _ hm)) (keep _ _ m0) (by have := (List.getElem?_eq_some_iff.mp hm).1; omega))).1⟩
  have t3 : (mMeth "Maker" "open_letters" c_Maker_open_letters (mVar 2) maNil) [some (.str t), some (.int M), some (.ob O.length), some (.lst T), o4] O3 = .ok (.lst ((rn M s0 its).1.row.map dL)) O3 := by
    rw [m_meth]
    simp only [m_var, List.getElem?_cons_zero, List.getElem?_cons_succ, bind_ok', e_mth (m := "open_letters") (by decide) (by decide) (by decide) (by decide) (by decide) f1, ma_nil, eo]
  show funF (b_rows_of [some (.str t), some (.int M), none, none, none] O) = _
  unfold b_rows_of
  rw [ms_seq, ms_set, en]
  simp only [setF_ok, seqF_nx, List.set_cons_succ, List.set_cons_zero, ms_seq, ms_set, m_lst, ma_nil, bind_ok', List.length_nil, Nat.zero_le, if_true, ms_for, m_iter, m_call, ma_cons, m_var, List.getElem?_cons_zero, List.getElem?_cons_succ, ei, iterD_lst, itF_some, forF_ok, e, ms_fz, ms_ret, m_tup, m_ml, t3, List.length_cons, Nat.reduceAdd, Nat.reduceLeDiff, retF_ok, fzF_rt, funF_rt]
theorem pr_loop {O : Store} {o : Nat} (a0 a1 : Option D) : ∀ (T : List D) (Ds : List Du) (o2 o3 : Option D), TD O o T Ds → ∃ o2' o3', floop (mgN' 2 (mgsCons (mgN 2) (mgsCons (mgN 3) mgsNil))) B_pr (zipD T (Ds.map dueD)) [a0, a1, o2, o3] O = .nx [a0, a1, o2', o3'] O
  | [], [], o2, o3, _ => ⟨o2, o3, rfl⟩
  | d :: T, x :: Ds, o2, o3, h => by
    obtain ⟨⟨n, rfl, ho⟩, hk, ht⟩ := h
    obtain ⟨o2', o3', e2⟩ := pr_loop a0 a1 T Ds (some (.tup [.ob n, .str x.2])) (some (dueD x)) ht
    refine ⟨o2', o3', ?_⟩
    have lr := e_lrO x.1 hk.1 ho.1
    have eb : B_pr [a0, a1, some (.tup [.ob n, .str x.2]), some (dueD x)] O = .nx [a0, a1, some (.tup [.ob n, .str x.2]), some (dueD x)] O := by
      have i0 : gIx (.tup [.ob n, .str x.2]) (.int 0) = some (.ob n) := rfl
      have i1 : gIx (.tup [.ob n, .str x.2]) (.int 1) = some (.str x.2) := rfl
      have i2 : gIx (dueD x) (.int 0) = some (.lst (x.1.map dL)) := rfl
      have i3 : gIx (dueD x) (.int 1) = some (.str x.2) := rfl
      have dd : deref O (dueD x) = dueD x := rfl
      unfold B_pr
      simp [i0, i1, i2, i3, dd, lr]
    rw [List.map_cons, zipD]
    unfold floop
    rw [mg_2]
    dsimp only
    show (match B_pr [a0, a1, some (.tup [.ob n, .str x.2]), some (dueD x)] O with
      | .nx ρ' O' => floop _ _ (zipD T (Ds.map dueD)) ρ' O' | .ct ρ' O' => floop _ _ (zipD T (Ds.map dueD)) ρ' O' | .bk ρ' O' => Fl.nx ρ' O' | r => r) = _
    rw [eb]
    exact e2
  | [], _ :: _, _, _, h => h.elim
  | _ :: _, [], _, _, h => h.elim
theorem e_partsL {O : Store} {o : Nat} {T : List D} {Ds : List Du} (h : TD O o T Ds) : c_law_parts_right [.lst T, .lst (Ds.map dueD)] O = .ok (.bl true) O := by
  obtain ⟨o2, o3, ef⟩ := pr_loop (some (.lst T)) (some (.lst (Ds.map dueD))) T Ds none none h
  have hl : (T.length : Int) = ((Ds.map dueD).length : Int) := by rw [List.length_map, h.len]
  unfold B_pr at ef
  simp only [c_law_parts_right, b_law_parts_right, m_fun, List.map_cons, List.map_nil, List.length_cons, List.length_nil, List.replicate, List.cons_append, List.nil_append, ms_seq, ms_if, mt_or, mt_not, m_tru, m_isi, m_var, List.getElem?_cons_zero, List.getElem?_cons_succ, bind_ok', deref_lst, tyD_lst, isF_some, isTy_11, deref_bl, truD_bl, ofB_some, Bool.not_true, Bool.false_eq_true, if_false, m_test, m_bin, m_callB, ma_cons, ma_nil, gLen_l, ofO_some, deref_int, gNe_i, hl, decide_true, teF_bl, ifF_ok, ms_nil, seqF_nx, ms_for, m_zip, ziF_l, forF_ok, ef, ms_ret, m_c, retF_ok, funF_rt]
def TE (O : Store) : List D → List Du → Prop
  | [], [] => True
  | d :: T, x :: Ds => (∃ n, d = .tup [.ob n, .str x.2] ∧ O[n]? = some (.ml (x.1.map dL))) ∧ OkDue x ∧ TE O T Ds
  | _, _ => False
theorem TD.te {O : Store} {o : Nat} : ∀ {T : List D} {Ds : List Du}, TD O o T Ds → TE O T Ds
  | [], [], _ => trivial
  | d :: T, x :: Ds, h => by
    obtain ⟨⟨n, e, ho⟩, hk, ht⟩ := h
    exact ⟨⟨n, e, ho.1⟩, hk, TD.te ht⟩
  | [], _ :: _, h => h.elim
  | _ :: _, [], h => h.elim
theorem TE.keeps {O O' : Store} (k : ∀ (m : Nat) (ds : List D), O[m]? = some (.ml ds) → O'[m]? = some (.ml ds)) : ∀ {T : List D} {Ds : List Du}, TE O T Ds → TE O' T Ds
  | [], [], _ => trivial
  | d :: T, x :: Ds, h => by
    obtain ⟨⟨n, e, ho⟩, hk, ht⟩ := h
    exact ⟨⟨n, e, k n _ ho⟩, hk, TE.keeps k ht⟩
  | [], _ :: _, h => h.elim
  | _ :: _, [], h => h.elim
theorem bin_ok {g : D → D → Option D} {a b : L2.M D} {ρ : DEnv} {O : Store} {x y z : D} (ha : a ρ O = .ok x O) (hb : b ρ O = .ok y O) (h : g (deref O x) (deref O y) = some z) : mBin g a b ρ O = .ok z O := by
  rw [m_bin, ha, bind_ok', hb, bind_ok', h, ofO_some]
theorem ma1 {a : L2.M D} {ρ : DEnv} {O : Store} {x : D} (h : a ρ O = .ok x O) : maCons a maNil ρ O = .ok [x] O := by
  rw [ma_cons, h, bind_ok', ma_nil, bind_ok']
theorem maS {a : L2.M D} {r : L2.M (List D)} {ρ : DEnv} {O : Store} {x : D} {xs : List D} (h : a ρ O = .ok x O) (h2 : r ρ O = .ok xs O) : maCons a r ρ O = .ok (x :: xs) O := by
  rw [ma_cons, h, bind_ok', h2, bind_ok']
theorem callB_ok {g : List D → Option D} {m : L2.M (List D)} {ρ : DEnv} {O : Store} {xs : List D} {z : D} (h : m ρ O = .ok xs O) (hg : g (xs.map (deref O)) = some z) : mCallB g m ρ O = .ok z O := by
  rw [m_callB, h, bind_ok', hg, ofO_some]
theorem app_ok {i : Nat} {m : L2.M D} {ρ : DEnv} {O : Store} {d : D} {ds : List D} (hm : m ρ O = .ok d O) (h : ρ[i]? = some (some (.lst ds))) (hl : ds.length < 1000000) : msApp i m ρ O = .nx (ρ.set i (some (.lst (ds ++ [d])))) O := by
  rw [ms_app, hm, apF_ok h hl]
theorem set_ok {i : Nat} {m : L2.M D} {ρ : DEnv} {O : Store} {d : D} (h : m ρ O = .ok d O) : msSet i m ρ O = .nx (ρ.set i (some d)) O := by
  rw [ms_set, h, setF_ok]
theorem call_ok {c : List D → Store → Res D} {ma : L2.M (List D)} {ρ : DEnv} {O : Store} {ds : List D} (h : ma ρ O = .ok ds O) : mCall c ma ρ O = c ds O := by
  rw [m_call, h, bind_ok']
theorem test_ok {m : L2.M D} {ρ : DEnv} {O : Store} {b : Bool} (h : m ρ O = .ok (.bl b) O) : mTest m ρ O = .ok b O := by
  rw [m_test, h, bind_ok', teF_bl]
theorem if_yes {t : L2.M Bool} {a b : MS} {ρ : DEnv} {O : Store} (h : t ρ O = .ok true O) : msIf t a b ρ O = a ρ O := by
  rw [ms_if, h, ifF_ok, if_pos rfl]
theorem if_no {t : L2.M Bool} {a b : MS} {ρ : DEnv} {O : Store} (h : t ρ O = .ok false O) : msIf t a b ρ O = b ρ O := by
  rw [ms_if, h, ifF_ok, if_neg Bool.false_ne_true]
theorem mod_ok {a b : L2.M D} {ρ : DEnv} {O : Store} {i j : Int} (ha : a ρ O = .ok (.int i) O) (hb : b ρ O = .ok (.int j) O) (hj : 0 < j) : mBin gMod a b ρ O = .ok (.int (i % j)) O := bin_ok ha hb (by rw [deref_int, deref_int, gMod_i, if_pos hj])
theorem eq_ok {a b : L2.M D} {ρ : DEnv} {O : Store} {i j : Int} (ha : a ρ O = .ok (.int i) O) (hb : b ρ O = .ok (.int j) O) : mTest (mBin gEq a b) ρ O = .ok (decide (i = j)) O := test_ok (bin_ok ha hb rfl)
def rD (r : List LT) : D := .lst (r.map dL)
def jP : List (List LT) → List LT → List Du → List (List LT) × List LT
  | R, c, [] => (R, c)
  | R, c, x :: Ds => if x.2 = kWhole then jP (R ++ [c ++ x.1]) [] Ds else jP R (c ++ x.1) Ds
def jn (Ds : List Du) (R : List (List LT)) (c row : List LT) : List (List LT) := (jP R c Ds).1 ++ [(jP R c Ds).2 ++ row]
def al : List (List LT) → List LT → Nat → Nat → List It3 → List (List LT)
  | R, c, _, _, [] => R ++ [c]
  | R, c, i, g, x :: its => if x.2.1 = kEnd then al (R ++ [c]) [] 46 46 its else if x.2.1 = kSign then al R (c ++ [(x.2.2.headD 0, i, g, x.1)]) i g its else if x.2.1 = kInk then al R c (x.2.2.headD 0) g its else if x.2.1 = kGround then al R c i (x.2.2.headD 0) its else al R c 46 46 its
theorem jn_al {M : Int} : ∀ (its : List It3) (s : Sta) (R : List (List LT)) (c : List LT), (∀ x ∈ its, Itm x.2.1 x.2.2 ∧ x.2.1 ≠ kAnew) → s.st = false → jn (rn M s its).2 R c (rn M s its).1.row = al R (c ++ s.row) s.i s.g its
  | [], s, R, c, _, _ => rfl
  | (p, k, v) :: its, s, R, c, h, hs => by
    obtain ⟨it, hk⟩ := h _ List.mem_cons_self
    have ih := fun s' R' c' hs' => jn_al (M := M) its s' R' c' (fun y hy => h y (List.mem_cons_of_mem _ hy)) hs'
    have hb : bare s = s.row := by unfold bare; rw [hs]; rfl
    have it' : Itm k v := it
    have hk' : k ≠ kAnew := hk
    show jn (due M s k ++ (rn M (stp M s p k v) its).2) R c (rn M (stp M s p k v) its).1.row = _
    cases it' with
    | anew => exact absurd rfl hk'
    | end_ => exact ih ⟨[], false, 46, 46⟩ (R ++ [c ++ s.row]) [] rfl
    | plain =>
      rw [show stp M s p kPlain [] = ⟨bare s, false, 46, 46⟩ from rfl, hb, show due M s kPlain = [] from rfl, List.nil_append]
      exact ih ⟨s.row, false, 46, 46⟩ R c rfl
    | ink x hx =>
      rw [show stp M s p kInk [x] = ⟨bare s, false, x, s.g⟩ from rfl, hb, show due M s kInk = [] from rfl, List.nil_append]
      exact ih ⟨s.row, false, x, s.g⟩ R c rfl
    | ground x hx =>
      rw [show stp M s p kGround [x] = ⟨bare s, false, s.i, x⟩ from rfl, hb, show due M s kGround = [] from rfl, List.nil_append]
      exact ih ⟨s.row, false, s.i, x⟩ R c rfl
    | sign x hx =>
      rw [show stp M s p kSign [x] = stS M s p x from rfl, show due M s kSign = dueS M s from rfl]
      unfold stS dueS
      rw [hb]
      by_cases hm : (s.row.length : Int) = M
      · rw [if_pos hm, if_pos hm]
        have := ih ⟨[(x, s.i, s.g, p)], false, s.i, s.g⟩ R (c ++ s.row) rfl
        exact this
      · rw [if_neg hm, if_neg hm, List.nil_append]
        have := ih ⟨s.row ++ [(x, s.i, s.g, p)], false, s.i, s.g⟩ R c rfl
        rw [← List.append_assoc] at this
        exact this
theorem due_b {M : Int} {s : Sta} (h : OkS M s) (hM : 0 ≤ M) (k : List Nat) : ∀ x ∈ due M s k, (x.1.length : Int) ≤ M ∧ (x.2 = kMore → (x.1.length : Int) = M) := by
  have ne : kWhole ≠ kMore := by decide
  intro x hx
  unfold due dueS at hx
  split at hx
  · rw [List.mem_singleton.mp hx]
    exact ⟨h.len, fun z => absurd z ne⟩
  · split at hx
    · split at hx
      · rename_i hm
        rw [List.mem_singleton.mp hx]
        exact ⟨Int.le_of_eq hm, fun _ => hm⟩
      · cases hx
    · cases hx
theorem rn_b {M : Int} (hM : 1 ≤ M) : ∀ (its : List It3) (s : Sta), OkS M s → (∀ x ∈ its, Itm x.2.1 x.2.2) → ∀ x ∈ (rn M s its).2, (x.1.length : Int) ≤ M ∧ (x.2 = kMore → (x.1.length : Int) = M)
  | [], s, _, _, x, hx => nomatch hx
  | y :: its, s, h, hi, x, hx => by
    have hx' : x ∈ due M s y.2.1 ++ (rn M (stp M s y.1 y.2.1 y.2.2) its).2 := hx
    rcases List.mem_append.mp hx' with hx | hx
    · exact due_b h (Int.le_trans (by decide) hM) _ x hx
    · exact rn_b hM its _ (h.stp hM (p := y.1) (hi y List.mem_cons_self)) (fun z hz => hi z (List.mem_cons_of_mem _ hz)) x hx
theorem ixN_last (n : Nat) : ixN (n + 1) (-1) = some n := by
  unfold ixN
  rw [if_neg (by decide), if_pos (by omega)]
  congr 1
  omega
def B_j : MS := (msSeq (msSetIx 2 (mUn gNeg (mC (.int 1))) (mBin gAdd (mBin gIx (mVar 2) (mUn gNeg (mC (.int 1)))) (mVar 3)))
    (msIf (mTest (mBin gEq (mVar 4) (mC (.str [119, 104, 111, 108, 101])))) (msApp 2 (mLst maNil)) msNil))
theorem neg1 (ρ : DEnv) (O : Store) : mUn gNeg (mC (.int 1)) ρ O = .ok (.int (-1)) O := rfl
theorem last_ix (R : List (List LT)) (c : List LT) : gIx (.lst ((R ++ [c]).map rD)) (.int (-1)) = some (rD c) := by
  rw [gIx_l]
  unfold atI
  rw [show ((R ++ [c]).map rD).length = R.length + 1 by simp, ixN_last]
  simp
theorem setLast {ρ : DEnv} {O : Store} {R : List (List LT)} {c e : List LT} {m : L2.M D} (h2 : ρ[2]? = some (some (.lst ((R ++ [c]).map rD)))) (hm : m ρ O = .ok (rD e) O) : msSetIx 2 (mUn gNeg (mC (.int 1))) m ρ O = .nx (ρ.set 2 (some (.lst ((R ++ [e]).map rD)))) O := by
  unfold msSetIx
  rw [hm]
  dsimp only
  rw [neg1]
  dsimp only
  rw [h2]
  dsimp only
  rw [show ((R ++ [c]).map rD).length = R.length + 1 by simp, ixN_last]
  dsimp only
  congr 3
  simp
theorem addLast {ρ : DEnv} {O : Store} {R : List (List LT)} {c e : List LT} {j n : Nat} (h2 : ρ[2]? = some (some (.lst ((R ++ [c]).map rD)))) (hj : ρ[j]? = some (some (.ob n))) (hn : O[n]? = some (.ml (e.map dL))) (hl : c.length + e.length ≤ 1000000) : mBin gAdd (mBin gIx (mVar 2) (mUn gNeg (mC (.int 1)))) (mVar j) ρ O = .ok (rD (c ++ e)) O := by
  have a1 : mBin gIx (mVar 2) (mUn gNeg (mC (.int 1))) ρ O = .ok (rD c) O := bin_ok (x := .lst ((R ++ [c]).map rD)) (by rw [m_var, h2]) (neg1 ρ O) (last_ix R c)
  refine bin_ok a1 (by rw [m_var, hj]) ?_
  rw [deref_ob hn]
  show gAdd (.lst (c.map dL)) (.lst (e.map dL)) = _
  rw [gAdd_l, if_pos (by rw [List.length_map, List.length_map]; exact hl), ← List.map_append]
  rfl
theorem j_turn {O : Store} {n : Nat} {x : Du} (a0 a1 : Option D) (R : List (List LT)) (c : List LT) (hn : O[n]? = some (.ml (x.1.map dL))) (hl : c.length + x.1.length ≤ 1000000) (hR : R.length < 100000) :
    B_j [a0, a1, some (.lst ((R ++ [c]).map rD)), some (.ob n), some (.str x.2)] O = .nx [a0, a1, some (.lst (if x.2 = kWhole then ((R ++ [c ++ x.1]) ++ [[]]).map rD else (R ++ [c ++ x.1]).map rD)), some (.ob n), some (.str x.2)] O := by
  have s1 := setLast (ρ := [a0, a1, some (.lst ((R ++ [c]).map rD)), some (.ob n), some (.str x.2)]) (O := O) (R := R) (c := c) (e := c ++ x.1) rfl (addLast (j := 3) rfl rfl hn hl)
  have s1' : msSetIx 2 (mUn gNeg (mC (.int 1))) (mBin gAdd (mBin gIx (mVar 2) (mUn gNeg (mC (.int 1)))) (mVar 3)) [a0, a1, some (.lst ((R ++ [c]).map rD)), some (.ob n), some (.str x.2)] O = .nx [a0, a1, some (.lst ((R ++ [c ++ x.1]).map rD)), some (.ob n), some (.str x.2)] O := s1
  unfold B_j
  rw [ms_seq, s1', seqF_nx]
  have t : mTest (mBin gEq (mVar 4) (mC (.str [119, 104, 111, 108, 101]))) [a0, a1, some (.lst ((R ++ [c ++ x.1]).map rD)), some (.ob n), some (.str x.2)] O = .ok (decide (x.2 = kWhole)) O := test_ok (bin_ok rfl rfl rfl)
  by_cases hw : x.2 = kWhole
  · rw [decide_eq_true hw] at t
    rw [if_yes t, if_pos hw]
    have := app_ok (i := 2) (m := mLst maNil) (ρ := [a0, a1, some (.lst ((R ++ [c ++ x.1]).map rD)), some (.ob n), some (.str x.2)]) (O := O) (d := .lst []) (ds := (R ++ [c ++ x.1]).map rD) rfl rfl (by simp; omega)
    rw [this, List.map_append (l₁ := R ++ [c ++ x.1])]
    rfl
  · rw [decide_eq_false hw] at t
    rw [if_no t, if_neg hw]
    rfl
theorem jP_len : ∀ (Ds : List Du) (R : List (List LT)) (c : List LT), (∀ x ∈ Ds, x.1.length ≤ 200) → (jP R c Ds).2.length ≤ c.length + 200 * Ds.length ∧ (jP R c Ds).1.length ≤ R.length + Ds.length
  | [], R, c, _ => ⟨by show c.length ≤ _; omega, by show R.length ≤ _; omega⟩
  | x :: Ds, R, c, h => by
    have hx := h x List.mem_cons_self
    have h' : ∀ y ∈ Ds, y.1.length ≤ 200 := fun y hy => h y (List.mem_cons_of_mem _ hy)
    show ((if x.2 = kWhole then jP (R ++ [c ++ x.1]) [] Ds else jP R (c ++ x.1) Ds).2.length ≤ _) ∧ (if x.2 = kWhole then jP (R ++ [c ++ x.1]) [] Ds else jP R (c ++ x.1) Ds).1.length ≤ _
    rw [List.length_cons]
    split
    · obtain ⟨a, b⟩ := jP_len Ds (R ++ [c ++ x.1]) [] h'
      rw [List.length_append, List.length_singleton] at b
      rw [List.length_nil] at a
      exact ⟨by omega, by omega⟩
    · obtain ⟨a, b⟩ := jP_len Ds R (c ++ x.1) h'
      rw [List.length_append] at a
      exact ⟨by omega, by omega⟩
theorem j_loop {O : Store} (a0 a1 : Option D) : ∀ (T : List D) (Ds : List Du) (R : List (List LT)) (c : List LT) (o3 o4 : Option D), TE O T Ds → (∀ x ∈ Ds, x.1.length ≤ 200) → c.length + 200 * Ds.length ≤ 1000000 → R.length + Ds.length < 100000 →
    ∃ o3' o4', floop (mgN' 2 (mgsCons (mgN 3) (mgsCons (mgN 4) mgsNil))) B_j T [a0, a1, some (.lst ((R ++ [c]).map rD)), o3, o4] O = .nx [a0, a1, some (.lst (((jP R c Ds).1 ++ [(jP R c Ds).2]).map rD)), o3', o4'] O
  | [], [], R, c, o3, o4, _, _, _, _ => ⟨o3, o4, rfl⟩
  | d :: T, x :: Ds, R, c, o3, o4, h, hb, hc, hR => by
    obtain ⟨⟨n, rfl, ho⟩, hk, ht⟩ := h
    have hx := hb x List.mem_cons_self
    rw [List.length_cons] at hc hR
    have eb := j_turn (n := n) a0 a1 R c ho (by omega) (by omega)
    have go : ∀ R' c', (if x.2 = kWhole then ((R ++ [c ++ x.1]) ++ [[]]) else (R ++ [c ++ x.1])) = R' ++ [c'] → jP R c (x :: Ds) = jP R' c' Ds → c'.length ≤ c.length + 200 → R'.length ≤ R.length + 1 → ∃ o3' o4', floop (mgN' 2 (mgsCons (mgN 3) (mgsCons (mgN 4) mgsNil))) B_j (.tup [.ob n, .str x.2] :: T) [a0, a1, some (.lst ((R ++ [c]).map rD)), o3, o4] O = .nx [a0, a1, some (.lst (((jP R c (x :: Ds)).1 ++ [(jP R c (x :: Ds)).2]).map rD)), o3', o4'] O := fun R' c' e1 e2 l1 l2 => by
      obtain ⟨o3', o4', e⟩ := j_loop a0 a1 T Ds R' c' (some (.ob n)) (some (.str x.2)) ht (fun y hy => hb y (List.mem_cons_of_mem _ hy)) (by omega) (by omega)
      refine ⟨o3', o4', ?_⟩
      unfold floop
      rw [mg_2]
      dsimp only
      show (match B_j [a0, a1, some (.lst ((R ++ [c]).map rD)), some (.ob n), some (.str x.2)] O with
        | .nx ρ' O' => floop _ _ T ρ' O' | .ct ρ' O' => floop _ _ T ρ' O' | .bk ρ' O' => Fl.nx ρ' O' | r => r) = _
      rw [eb, e2, ← e]
      dsimp only
      rw [← e1]
      congr 5
      split <;> rfl
    by_cases hw : x.2 = kWhole
    · exact go (R ++ [c ++ x.1]) [] (by rw [if_pos hw]) (by show (if x.2 = kWhole then _ else _) = _; rw [if_pos hw]) (by simp) (by simp)
    · exact go R (c ++ x.1) (by rw [if_neg hw]) (by show (if x.2 = kWhole then _ else _) = _; rw [if_neg hw]) (by rw [List.length_append]; omega) (by omega)
  | [], _ :: _, _, _, _, _, h, _, _, _ => h.elim
  | _ :: _, [], _, _, _, _, h, _, _, _ => h.elim
theorem e_joined {O : Store} {n : Nat} {T : List D} {Ds : List Du} {row : List LT} (td : TE O T Ds) (hn : O[n]? = some (.ml (row.map dL))) (hb : ∀ x ∈ Ds, x.1.length ≤ 200) (hd : Ds.length ≤ 1000) (hr : row.length ≤ 200) : c_law_joined [.lst T, .ob n] O = .ok (.lst ((jn Ds [] [] row).map rD)) O := by
  obtain ⟨o3, o4, e⟩ := j_loop (some (.lst T)) (some (.ob n)) T Ds [] [] none none td hb (by simp; omega) (by simp; omega)
  obtain ⟨l1, l2⟩ := jP_len Ds [] [] hb
  rw [List.length_nil] at l1
  have s2 := setLast (ρ := [some (.lst T), some (.ob n), some (.lst (((jP [] [] Ds).1 ++ [(jP [] [] Ds).2]).map rD)), o3, o4]) (O := O) (R := (jP [] [] Ds).1) (c := (jP [] [] Ds).2) (e := (jP [] [] Ds).2 ++ row) rfl (addLast (j := 1) rfl rfl hn (by omega))
  have e0 : (mLst (maCons (mLst maNil) maNil)) [some (.lst T), some (.ob n), none, none, none] O = .ok (.lst (([] ++ [([] : List LT)]).map rD)) O := rfl
  have e' : msFor (mIter (mVar 0)) (mgN' 2 (mgsCons (mgN 3) (mgsCons (mgN 4) mgsNil))) B_j (([some (.lst T), some (.ob n), none, none, none] : DEnv).set 2 (some (.lst (([] ++ [([] : List LT)]).map rD)))) O = .nx [some (.lst T), some (.ob n), some (.lst (((jP [] [] Ds).1 ++ [(jP [] [] Ds).2]).map rD)), o3, o4] O := e
  unfold B_j at e'
  show funF (b_law_joined [some (.lst T), some (.ob n), none, none, none] O) = _
  unfold b_law_joined
  rw [ms_seq, set_ok e0, seqF_nx, ms_seq, e', seqF_nx, ms_seq, s2, seqF_nx]
  rfl
theorem rows_lay (R : List (List LT)) (h : ∀ r ∈ R, ∀ x ∈ r, OkL x) : okE (.lst (R.map rD)) = true := okE_lst (n := 10) (by decide) fun d hd => by
  obtain ⟨r, hr, rfl⟩ := List.mem_map.mp hd
  have lay : ∀ d ∈ (r.map dL).map toP, d.canLay0 = true ∧ d.depth ≤ 5 := fun d hd => by
    obtain ⟨d', h', rfl⟩ := List.mem_map.mp hd
    obtain ⟨x, hx, rfl⟩ := List.mem_map.mp h'
    exact (letter_ok (h r hr x hx)).2
  refine ⟨?_, ?_, ?_⟩
  · show plainD (.lst (r.map dL)) = true
    rw [plainD]
    exact plainDs_all fun d hd => by
      obtain ⟨x, hx, rfl⟩ := List.mem_map.mp hd
      rfl
  · show PyData.canLayAll0 (toPs (r.map dL)) = true
    rw [toPs_map]
    exact lay_all fun d hd => (lay d hd).1
  · show PyData.depthAll (toPs (r.map dL)) + 1 ≤ 10
    rw [toPs_map]
    have := deep_all fun d hd => (lay d hd).2
    omega
theorem jP_ok : ∀ (Ds : List Du) (R : List (List LT)) (c : List LT), (∀ x ∈ Ds, OkDue x) → (∀ r ∈ R, ∀ x ∈ r, OkL x) → (∀ x ∈ c, OkL x) → (∀ r ∈ (jP R c Ds).1, ∀ x ∈ r, OkL x) ∧ ∀ x ∈ (jP R c Ds).2, OkL x
  | [], R, c, _, h1, h2 => ⟨h1, h2⟩
  | x :: Ds, R, c, h, h1, h2 => by
    have hx := (h x List.mem_cons_self).1
    have h' : ∀ y ∈ Ds, OkDue y := fun y hy => h y (List.mem_cons_of_mem _ hy)
    have hc : ∀ y ∈ c ++ x.1, OkL y := fun y hy => by
      rcases List.mem_append.mp hy with hy | hy
      · exact h2 y hy
      · exact hx y hy
    show (∀ r ∈ (if x.2 = kWhole then jP (R ++ [c ++ x.1]) [] Ds else jP R (c ++ x.1) Ds).1, ∀ x ∈ r, OkL x) ∧ ∀ y ∈ (if x.2 = kWhole then jP (R ++ [c ++ x.1]) [] Ds else jP R (c ++ x.1) Ds).2, OkL y
    split
    · refine jP_ok Ds (R ++ [c ++ x.1]) [] h' (fun r hr => ?_) (fun y hy => nomatch hy)
      rcases List.mem_append.mp hr with hr | hr
      · exact h1 r hr
      · rw [List.mem_singleton.mp hr]
        exact hc
    · exact jP_ok Ds R (c ++ x.1) h' h1 hc
theorem TE.dues {O : Store} : ∀ {T : List D} {Ds : List Du}, TE O T Ds → ∀ x ∈ Ds, OkDue x
  | [], [], _, x, hx => nomatch hx
  | d :: T, y :: Ds, h, x, hx => by
    rcases List.mem_cons.mp hx with rfl | hx
    · exact h.2.1
    · exact TE.dues h.2.2 x hx
  | [], _ :: _, h, _, _ => h.elim
  | _ :: _, [], h, _, _ => h.elim
theorem jn_lay (Ds : List Du) (row : List LT) (h : ∀ x ∈ Ds, OkDue x) (hr : ∀ x ∈ row, OkL x) : okE (.lst ((jn Ds [] [] row).map rD)) = true := rows_lay _ fun r hr' x hx => by
  obtain ⟨a, b⟩ := jP_ok Ds [] [] h (fun r hr => nomatch hr) (fun x hx => nomatch hx)
  unfold jn at hr'
  rcases List.mem_append.mp hr' with hr' | hr'
  · exact a r hr' x hx
  · rw [List.mem_singleton.mp hr'] at hx
    rcases List.mem_append.mp hx with hx | hx
    · exact b x hx
    · exact hr x hx
structure Pc (b : Bool) (l : List Nat) : Prop where
  len : l.length ≤ 9
  ok : ∀ c ∈ l, (32 ≤ c ∧ c ≤ 125) ∨ c = 10 ∨ (c = 9 ∧ b = true)
theorem cutT (l : List Nat) (v : Int) (h : 0 ≤ v) : cutN l none (some v) = l.take v.toNat := by
  obtain ⟨k, rfl⟩ := Int.eq_ofNat_of_zero_le h
  exact cut_0n l k
def weT : List Nat := [119, 101, 32, 97, 118, 101, 32, 111, 117, 84]
theorem weT_ok : ∀ c ∈ weT, 32 ≤ c ∧ c ≤ 125 := by decide
theorem e_piece (b : Bool) (n : Int) : ∃ l, Pc b l ∧ ∀ O, c_law_piece [.int n, .bl b] O = .ok (.str l) O := by
  obtain ⟨c, hc, ec⟩ := ixS (l := [97, 98, 99, 100, 101, 102, 103, 104, 46]) (v := mix n 1) (n := 9) (by decide) (by decide) (by decide)
  have cl : ∀ c ∈ [97, 98, 99, 100, 101, 102, 103, 104, 46], 32 ≤ c ∧ c ≤ 125 := by decide
  have oc := cl c hc
  have m0 := fun O => e_mix n 0 (by decide) (by decide) O
  have m1 := fun O => e_mix n 1 (by decide) (by decide) O
  have m3 := fun O => e_mix n 3 (by decide) (by decide) O
  have m4 := fun O => e_mix n 4 (by decide) (by decide) O
  by_cases w0 : mix n 0 % 8 = 0
  · exact ⟨[10], ⟨by simp, by simp⟩, fun O => by simp [c_law_piece, b_law_piece, m0, m1, ec, w0]⟩
  by_cases w1 : mix n 0 % 8 = 1 ∧ b = true
  · exact ⟨[9], ⟨by simp, by simp [w1.2]⟩, fun O => by simp [c_law_piece, b_law_piece, m0, m1, ec, w1.1, w1.2]⟩
  by_cases w2 : mix n 0 % 8 = 2
  · obtain ⟨x, hx, ex⟩ := ixL (l := [.str [91, c, 93], .str [91, 47, c, 93], .str [91, 93]]) (v := mix n 3) (n := 3) rfl (by decide)
    have r : ∀ O, c_law_piece [.int n, .bl b] O = .ok x O := fun O => by simp [c_law_piece, b_law_piece, m0, m1, m3, ec, w2, ex]
    simp at hx
    rcases hx with rfl | rfl | rfl
    all_goals exact ⟨_, ⟨by simp, by simp [oc]⟩, r⟩
  have hv0 := Int.emod_nonneg (mix n 4) (show (9 : Int) ≠ 0 by decide)
  have hv1 := Int.emod_lt_of_pos (mix n 4) (show (0 : Int) < 9 by decide)
  have ct := cutT [119, 101, 32, 97, 118, 101, 32, 111, 117, 84] (1 + mix n 4 % 9) (by omega)
  refine ⟨weT.take (1 + mix n 4 % 9).toNat, ⟨by rw [List.length_take]; omega, fun c hc => .inl (weT_ok c (List.mem_of_mem_take hc))⟩, fun O => ?_⟩
  unfold weT
  by_cases w5 : mix n 0 % 8 = 1
  · have hb : b = false := by
      cases b with
      | false => rfl
      | true => exact absurd ⟨w5, rfl⟩ w1
    subst hb
    simp [c_law_piece, b_law_piece, m0, m1, m4, ec, w5, ct]
  · simp [c_law_piece, b_law_piece, m0, m1, m4, ec, w0, w2, w5, ct]
noncomputable def pc (b : Bool) (n : Int) : List Nat := (e_piece b n).choose
theorem pc_ok (b : Bool) (n : Int) : Pc b (pc b n) := (e_piece b n).choose_spec.1
theorem pc_eq (b : Bool) (n : Int) (O : Store) : c_law_piece [.int n, .bl b] O = .ok (.str (pc b n)) O := (e_piece b n).choose_spec.2 O
noncomputable def txt (b : Bool) (ns : List Int) : List Nat := (ns.map (pc b)).flatten
theorem txt_len (b : Bool) : ∀ ns : List Int, (txt b ns).length ≤ 9 * ns.length ∧ ((ns.map (pc b)).map List.length).sum ≤ 9 * ns.length
  | [] => ⟨Nat.le_refl _, Nat.le_refl _⟩
  | n :: ns => by
    obtain ⟨x, y⟩ := txt_len b ns
    have := (pc_ok b n).len
    unfold txt at *
    simp only [List.map_cons, List.flatten_cons, List.length_append, List.sum_cons, List.length_cons] at *
    omega
theorem txt_ok (b : Bool) (ns : List Int) : ∀ c ∈ txt b ns, (32 ≤ c ∧ c ≤ 125) ∨ c = 10 ∨ (c = 9 ∧ b = true) := by
  intro c hc
  unfold txt at hc
  obtain ⟨l, hl, hcl⟩ := List.mem_flatten.mp hc
  obtain ⟨n, _, rfl⟩ := List.mem_map.mp hl
  exact (pc_ok b n).ok c hcl
theorem e_txt (b : Bool) (ns : List Int) (ρ : DEnv) (h0 : ρ[0]? = some (some (.lst (ns.map D.int)))) (h1 : ρ[3]? = some (some (.bl b))) (O : Store) :
    mJoin (mComp (mIter (mSl (mVar 0) (moS (mC (.int 1))) (moS (mC (.int 41))))) 1 [3] (mgN 0) mYes (mCall c_law_piece (maCons (mVar 0) (maCons (mVar 1) maNil)))) ρ O = .ok (.str (txt b ((ns.drop 1).take 40))) O := by
  have ecut : cutN (ns.map D.int) (some 1) (some 41) = ((ns.drop 1).take 40).map D.int := by
    have := cut_nn (ns.map D.int) 1 41
    rw [List.map_take, List.map_drop]
    exact this
  have ec : cloop (mgN 0) mYes (mCall c_law_piece (maCons (mVar 0) (maCons (mVar 1) maNil))) (((ns.drop 1).take 40).map D.int) [none, some (.bl b)] O [] = .ok (((ns.drop 1).take 40).map fun n => .str (pc b n)) O := by
    rw [cloop_map (fun ρ => ∃ a, ρ = [a, some (.bl b)]) (fun d => match d with | .int n => .str (pc b n) | _ => .non) _ _ _ _ ⟨none, rfl⟩ (by
      rintro d hd ρ ⟨a, rfl⟩
      obtain ⟨n, hn, rfl⟩ := List.mem_map.mp hd
      refine ⟨_, rfl, ⟨_, rfl⟩, rfl, ?_⟩
      simp [pc_eq])]
    rw [List.map_map, List.nil_append]
    congr 1
  have e2 := strsD_map (f := pc b) ((ns.drop 1).take 40)
  have hl : ((ns.drop 1).take 40).length ≤ 40 := by rw [List.length_take]; omega
  have z1 : (((ns.drop 1).take 40).map D.int).length ≤ 1000000 := by rw [List.length_map]; omega
  have z2 := (txt_len b ((ns.drop 1).take 40)).2
  have z3 : ((((ns.drop 1).take 40).map (pc b)).map List.length).sum ≤ 1000000 := by omega
  have cE : cEnv 1 [3] ρ = [none, some (.bl b)] := by rw [c_env]; simp [h1]
  simp only [m_join, m_comp, m_iter, m_sl, mo_s, m_c, m_var, h0, bind_ok', deref_lst, osF_i, gSl_lst, ecut, ofO_some, iterD_lst, itF_some, if_pos z1, cE, ec, jdF_l, e2, joF_some, if_pos z3]
  rfl
def lng : List Nat := (List.replicate 25 [108, 111, 110, 103, 32, 114, 111, 119, 32]).flatten
theorem e_lng : gMul (.str [108, 111, 110, 103, 32, 114, 111, 119, 32]) (.int 25) = some (.str lng) := rfl
theorem lng_len : lng.length = 225 := by decide
theorem lng_ok : ∀ c ∈ lng, 32 ≤ c ∧ c ≤ 125 := by decide
def lstT : List Nat := [108, 97, 115, 116, 108, 121]
theorem lst_ok : ∀ c ∈ lstT, 32 ≤ c ∧ c ≤ 125 := by decide
structure Tx (b : Bool) (t : List Nat) : Prop where
  len : t.length ≤ 600
  ok : ∀ c ∈ t, (32 ≤ c ∧ c ≤ 125) ∨ c = 10 ∨ (c = 9 ∧ b = true)
theorem e_long (b : Bool) (v0 : Int) (t0 : List Nat) (h0 : t0.length ≤ 360) (hk : ∀ c ∈ t0, (32 ≤ c ∧ c ≤ 125) ∨ c = 10 ∨ (c = 9 ∧ b = true)) (a0 a2 a3 : Option D) (O : Store) : ∃ t, Tx b t ∧
    (msIf (mTest (mBin gEq (mBin gMod (mCall c_law_mix (maCons (mVar 1) (maCons (mC (.int 10)) maNil))) (mC (.int 5))) (mC (.int 0)))) (msSet 4 (mBin gAdd (mBin gAdd (mVar 4) (mBin gMul (mC (.str [108, 111, 110, 103, 32, 114, 111, 119, 32])) (mC (.int 25)))) (mSl (mC (.str [108, 97, 115, 116, 108, 121])) moN (moS (mBin gMod (mCall c_law_mix (maCons (mVar 1) (maCons (mC (.int 11)) maNil))) (mC (.int 6))))))) msNil) [a0, some (.int v0), a2, a3, some (.str t0), none, none, none, none, none] O = .nx [a0, some (.int v0), a2, a3, some (.str t), none, none, none, none, none] O := by
  have m10 := e_mix v0 10 (by decide) (by decide) O
  have m11 := e_mix v0 11 (by decide) (by decide) O
  have c1 : mCall c_law_mix (maCons (mVar 1) (maCons (mC (.int 10)) maNil)) [a0, some (.int v0), a2, a3, some (.str t0), none, none, none, none, none] O = .ok (.int (mix v0 10)) O := (call_ok (maS rfl (ma1 rfl))).trans m10
  have c2 : mCall c_law_mix (maCons (mVar 1) (maCons (mC (.int 11)) maNil)) [a0, some (.int v0), a2, a3, some (.str t0), none, none, none, none, none] O = .ok (.int (mix v0 11)) O := (call_ok (maS rfl (ma1 rfl))).trans m11
  have t1 := eq_ok (mod_ok c1 (m_c (d := .int 5)) (by decide)) (m_c (d := .int 0))
  by_cases w : mix v0 10 % 5 = 0
  · rw [decide_eq_true w] at t1
    rw [if_yes t1]
    have hv0 := Int.emod_nonneg (mix v0 11) (show (6 : Int) ≠ 0 by decide)
    have ct := cutT lstT (mix v0 11 % 6) hv0
    have x1 : mSl (mC (.str [108, 97, 115, 116, 108, 121])) moN (moS (mBin gMod (mCall c_law_mix (maCons (mVar 1) (maCons (mC (.int 11)) maNil))) (mC (.int 6)))) [a0, some (.int v0), a2, a3, some (.str t0), none, none, none, none, none] O = .ok (.str (lstT.take (mix v0 11 % 6).toNat)) O := by
      rw [m_sl, m_c, bind_ok', mo_n, bind_ok', mo_s, mod_ok c2 (m_c (d := .int 6)) (by decide), bind_ok', osF_i, bind_ok', deref_str, gSl_str, if_pos (by decide), ofO_some, ← ct]
      rfl
    have x2 : mBin gMul (mC (.str [108, 111, 110, 103, 32, 114, 111, 119, 32])) (mC (.int 25)) [a0, some (.int v0), a2, a3, some (.str t0), none, none, none, none, none] O = .ok (.str lng) O := bin_ok m_c m_c (by rw [deref_str, deref_int, e_lng])
    have hl := lng_len
    have tl : (lstT.take (mix v0 11 % 6).toNat).length ≤ 6 := by rw [List.length_take]; exact Nat.le_trans (Nat.min_le_right _ _) (by decide)
    have x3 : mBin gAdd (mVar 4) (mBin gMul (mC (.str [108, 111, 110, 103, 32, 114, 111, 119, 32])) (mC (.int 25))) [a0, some (.int v0), a2, a3, some (.str t0), none, none, none, none, none] O = .ok (.str (t0 ++ lng)) O := bin_ok rfl x2 (by rw [deref_str, deref_str, gAdd_s, if_pos (by omega)])
    have x4 := bin_ok (g := gAdd) (z := .str (t0 ++ lng ++ lstT.take (mix v0 11 % 6).toNat)) x3 x1 (by rw [deref_str, deref_str, gAdd_s, if_pos (by rw [List.length_append]; omega)])
    refine ⟨t0 ++ lng ++ lstT.take (mix v0 11 % 6).toNat, ⟨by rw [List.length_append, List.length_append]; omega, fun c hc => ?_⟩, set_ok x4⟩
    rcases List.mem_append.mp hc with hc | hc
    · rcases List.mem_append.mp hc with hc | hc
      · exact hk c hc
      · exact .inl (lng_ok c hc)
    · exact .inl (lst_ok c (List.mem_of_mem_take hc))
  · rw [decide_eq_false w] at t1
    rw [if_no t1]
    exact ⟨t0, ⟨by omega, hk⟩, rfl⟩
theorem le_sum : ∀ (l : List Nat) (x : Nat), x ∈ l → x ≤ l.sum
  | y :: l, x, h => by
    rw [List.sum_cons]
    rcases List.mem_cons.mp h with rfl | h
    · omega
    · have := le_sum l x h
      omega
theorem split_some (x y : Str) : Txt.split x y ≠ [] := by
  intro h
  have j := StrLaws.join_split x y
  have w := h
  unfold Txt.split at h
  split at h
  · cases h
  · split at h
    · cases h
    · have := congrArg List.length h
      rw [length_partsBetween] at this
      simp at this
theorem e_max (t : List Nat) (ht : t.length ≤ 600) : ∃ m, gMaxK [.lst ((cutS t [10]).map D.str)] = some (.str m) ∧ m.length ≤ 1000000 := by
  have hw := PyProof.Rows.split_weight (S t) (S [10]) (by rw [S_length]; exact Nat.le_refl _)
  rw [S_length] at hw
  have hs : strsD ((cutS t [10]).map D.str) = some (cutS t [10]) := by
    have := strsD_map (f := fun x : List Nat => x) (cutS t [10])
    rw [List.map_id'] at this
    exact this
  have hl : ∀ x ∈ cutS t [10], x.length ≤ 1000000 := fun x hx => by
    obtain ⟨y, hy, rfl⟩ := List.mem_map.mp hx
    have h1 := le_sum _ _ (List.mem_map.mpr ⟨y, hy, rfl⟩ : y.length ∈ (Txt.split (S t) (S [10])).map (·.length))
    have h2 : y.cps.toList.length = y.length := by simp [Str.length]
    omega
  have hne : cutS t [10] ≠ [] := fun z => split_some (S t) (S [10]) (List.map_eq_nil_iff.mp z)
  obtain ⟨m, e, hm⟩ := mxT_ne hne
  refine ⟨m, ?_, hl m hm⟩
  show (match strsD ((cutS t [10]).map D.str) with | some ls => if ls.all (fun x => decide (x.length ≤ 1000000)) = true then (mxT none ls).map D.str else none | none => none) = _
  rw [hs]
  dsimp only
  rw [if_pos (List.all_eq_true.mpr fun x hx => decide_eq_true (hl x hx)), e]
  rfl
def B_w : MS := (msIf (mtOr (mTest (mBin gGt (mCallB gLen (maCons (mVar 7) maNil)) (mVar 2))) (mtAnd (mTest (mBin gEq (mVar 8) (mC (.str [109, 111, 114, 101])))) (mTest (mBin gNe (mCallB gLen (maCons (mVar 7) maNil)) (mVar 2))))) (msRet (mC (.bl false))) msNil)
theorem w_turn {O : Store} {n : Nat} {x : Du} {M : Int} (a0 a1 a3 a4 a5 a6 a9 : Option D) (hn : O[n]? = some (.ml (x.1.map dL))) (h1 : (x.1.length : Int) ≤ M) (h2 : x.2 = kMore → (x.1.length : Int) = M) :
    B_w [a0, a1, some (.int M), a3, a4, a5, a6, some (.ob n), some (.str x.2), a9] O = .nx [a0, a1, some (.int M), a3, a4, a5, a6, some (.ob n), some (.str x.2), a9] O := by
  have el : mCallB gLen (maCons (mVar 7) maNil) [a0, a1, some (.int M), a3, a4, a5, a6, some (.ob n), some (.str x.2), a9] O = .ok (.int (x.1.length : Int)) O := callB_ok (ma1 rfl) (by rw [List.map_cons, List.map_nil, deref_ob hn, gLen_l, List.length_map])
  have t1 : mTest (mBin gGt (mCallB gLen (maCons (mVar 7) maNil)) (mVar 2)) [a0, a1, some (.int M), a3, a4, a5, a6, some (.ob n), some (.str x.2), a9] O = .ok false O := (test_ok (bin_ok (y := .int M) el rfl gGt_i)).trans (by rw [decide_eq_false (by omega)])
  have t2 : mTest (mBin gEq (mVar 8) (mC (.str [109, 111, 114, 101]))) [a0, a1, some (.int M), a3, a4, a5, a6, some (.ob n), some (.str x.2), a9] O = .ok (decide (x.2 = kMore)) O := test_ok (bin_ok rfl rfl rfl)
  have t3 : mTest (mBin gNe (mCallB gLen (maCons (mVar 7) maNil)) (mVar 2)) [a0, a1, some (.int M), a3, a4, a5, a6, some (.ob n), some (.str x.2), a9] O = .ok (!decide ((x.1.length : Int) = M)) O := test_ok (bin_ok (y := .int M) el rfl gNe_i)
  unfold B_w
  refine if_no ?_
  rw [mt_or, t1, bind_ok', if_neg Bool.false_ne_true, mt_and, t2, bind_ok']
  by_cases hw : x.2 = kMore
  · rw [decide_eq_true hw, if_pos rfl, t3, decide_eq_true (h2 hw)]
    rfl
  · rw [decide_eq_false hw, if_neg Bool.false_ne_true]
theorem w_loop {O : Store} {M : Int} (a0 a1 a3 a4 a5 a6 a9 : Option D) : ∀ (T : List D) (Ds : List Du) (o7 o8 : Option D), TE O T Ds → (∀ x ∈ Ds, (x.1.length : Int) ≤ M ∧ (x.2 = kMore → (x.1.length : Int) = M)) →
    ∃ o7' o8', floop (mgN' 2 (mgsCons (mgN 7) (mgsCons (mgN 8) mgsNil))) B_w T [a0, a1, some (.int M), a3, a4, a5, a6, o7, o8, a9] O = .nx [a0, a1, some (.int M), a3, a4, a5, a6, o7', o8', a9] O
  | [], [], o7, o8, _, _ => ⟨o7, o8, rfl⟩
  | d :: T, x :: Ds, o7, o8, h, hb => by
    obtain ⟨⟨n, rfl, ho⟩, hk, ht⟩ := h
    have hx := hb x List.mem_cons_self
    have eb := w_turn a0 a1 a3 a4 a5 a6 a9 ho hx.1 hx.2
    obtain ⟨o7', o8', e⟩ := w_loop a0 a1 a3 a4 a5 a6 a9 T Ds (some (.ob n)) (some (.str x.2)) ht (fun y hy => hb y (List.mem_cons_of_mem _ hy))
    refine ⟨o7', o8', ?_⟩
    unfold floop
    rw [mg_2]
    dsimp only
    show (match B_w [a0, a1, some (.int M), a3, a4, a5, a6, some (.ob n), some (.str x.2), a9] O with
      | .nx ρ' O' => floop _ _ T ρ' O' | .ct ρ' O' => floop _ _ T ρ' O' | .bk ρ' O' => Fl.nx ρ' O' | r => r) = _
    rw [eb]
    exact e
  | [], _ :: _, _, _, h, _ => h.elim
  | _ :: _, [], _, _, h, _ => h.elim
theorem na_1 : kEnd ≠ kAnew := by decide
theorem na_2 : kPlain ≠ kAnew := by decide
theorem na_3 : kSign ≠ kAnew := by decide
theorem na_4 : kInk ≠ kAnew := by decide
theorem na_5 : kGround ≠ kAnew := by decide
theorem one_na {c : Nat} {r : List Nat} (h : c ≠ 9) : (one c r).1 ≠ kAnew := by
  unfold one
  rw [if_neg h]
  split
  · first | exact na_1 | exact na_2 | exact na_3
  split
  · unfold oneB
    cases r with
    | nil => exact na_3
    | cons d r =>
      dsimp only
      split
      · first | exact na_1 | exact na_2 | exact na_3
      split
      · first | exact na_1 | exact na_2 | exact na_3
      split
      · unfold oneC
        cases r with
        | nil => exact na_3
        | cons e r =>
          dsimp only
          split <;> first | exact na_3 | exact na_4 | exact na_5
      split
      · unfold oneH
        cases r with
        | nil => exact na_3
        | cons e r =>
          dsimp only
          split
          · unfold oneG
            cases r with
            | nil => exact na_3
            | cons f r =>
              dsimp only
              split <;> first | exact na_3 | exact na_4 | exact na_5
          · first | exact na_1 | exact na_2 | exact na_3
      · first | exact na_1 | exact na_2 | exact na_3
  · first | exact na_1 | exact na_2 | exact na_3
theorem items_na : ∀ (n : Nat) (t : List Nat) (p : Int), t.length ≤ n → (∀ c ∈ t, c ≠ 9) → ∀ its : List It3, items p t = its.map itD → ∀ x ∈ its, x.2.1 ≠ kAnew
  | _, [], p, _, _, its, e, x, hx => by
    rw [items_nil] at e
    rw [List.map_eq_nil_iff.mp e.symm] at hx
    cases hx
  | 0, c :: t, p, h, _, _, _, _, _ => by simp at h
  | n + 1, c :: t, p, h, hc, its, e, x, hx => by
    simp only [List.length_cons] at h
    rw [items_cons] at e
    cases its with
    | nil => cases e
    | cons y its =>
      rw [List.map_cons] at e
      obtain ⟨e1, e2⟩ := List.cons.inj e
      rcases List.mem_cons.mp hx with rfl | hx
      · have e3 : item p (one c t).1 (one c t).2.1 = item x.1 x.2.1 x.2.2 := e1
        unfold item at e3
        simp at e3
        rw [← e3.2.1]
        exact one_na (hc c List.mem_cons_self)
      · exact items_na n (t.drop (one c t).2.2) _ (by rw [List.length_drop]; omega) (fun y hy => hc y (List.mem_cons_of_mem _ (List.mem_of_mem_drop hy))) its e2 x hx
theorem gEq_same {l : List D} (h : okE (.lst l) = true) : gEq (.lst l) (.lst l) = some (.bl true) := by
  rw [gEq_l, h, Bool.and_self, if_pos rfl, eqDD_refl h]
def B_tl : MS := (msSeq (msIf (mtOr (mTru (mVar 3)) (mTest (mBin gGt (mCallB gLen (maCons (mCallB gMaxK (maCons (mSplit (mVar 4) (mC (.str [10]))) maNil)) maNil)) (mC (.int 200))))) (msRet (mC (.bl true))) msNil)
    (msSeq (msSet 9 (mCall c_rows_of (maCons (mVar 4) (maCons (mC (.int 200)) maNil))))
    (msRet (mBin gEq (mCall c_law_joined (maCons (mBin gIx (mVar 6) (mC (.int 0))) (maCons (mBin gIx (mVar 6) (mC (.int 1))) maNil))) (mCall c_law_joined (maCons (mBin gIx (mVar 9) (mC (.int 0))) (maCons (mBin gIx (mVar 9) (mC (.int 1))) maNil)))))))
theorem e_tl {b : Bool} {t : List Nat} (tx : Tx b t) (ht : Okt t) (its : List It3) (hit : items 0 t = its.map itD) (hi : ∀ x ∈ its, Itm x.2.1 x.2.2) (hl : its.length ≤ t.length) {M : Int} (hM : 1 ≤ M ∧ M ≤ 200) {O : Store} {T : List D} {no : Nat} (td : TE O T (rn M s0 its).2) (n1 : O[no]? = some (.ml ((rn M s0 its).1.row.map dL))) (a0 a1' a2' a5 o7 o8 : Option D) :
    ∃ O', B_tl [a0, a1', a2', some (.bl b), some (.str t), a5, some (.tup [.lst T, .ob no]), o7, o8, none] O = .rt (.bl true) O' := by
  have hlen := tx.len
  cases b with
  | true => exact ⟨O, rfl⟩
  | false =>
    have na : ∀ c ∈ t, c ≠ 9 := fun c hc => by
      rcases tx.ok c hc with h | h | h
      · omega
      · omega
      · exact absurd h.2 Bool.false_ne_true
    have hna := items_na t.length t 0 (Nat.le_refl _) na its hit
    obtain ⟨m, em, hm⟩ := e_max t hlen
    have x1 : mSplit (mVar 4) (mC (.str [10])) [a0, a1', a2', some (.bl false), some (.str t), a5, some (.tup [.lst T, .ob no]), o7, o8, none] O = .ok (.lst ((cutS t [10]).map D.str)) O := by
      show (if 1 ≤ [10].length ∧ t.length ≤ 1000000 then Res.ok (D.lst ((cutS t [10]).map D.str)) O else .no) = _
      rw [if_pos ⟨by decide, by omega⟩]
    have x2 := callB_ok (g := gMaxK) (ma1 x1) em
    have x3 : mCallB gLen (maCons (mCallB gMaxK (maCons (mSplit (mVar 4) (mC (.str [10]))) maNil)) maNil) [a0, a1', a2', some (.bl false), some (.str t), a5, some (.tup [.lst T, .ob no]), o7, o8, none] O = .ok (.int (m.length : Int)) O := callB_ok (ma1 x2) (by show gLen [.str m] = _; rw [gLen_s, if_pos hm])
    have x4 : mTest (mBin gGt (mCallB gLen (maCons (mCallB gMaxK (maCons (mSplit (mVar 4) (mC (.str [10]))) maNil)) maNil)) (mC (.int 200))) [a0, a1', a2', some (.bl false), some (.str t), a5, some (.tup [.lst T, .ob no]), o7, o8, none] O = .ok (decide ((200 : Int) < m.length)) O := test_ok (bin_ok x3 m_c gGt_i)
    have x5 : mtOr (mTru (mVar 3)) (mTest (mBin gGt (mCallB gLen (maCons (mCallB gMaxK (maCons (mSplit (mVar 4) (mC (.str [10]))) maNil)) maNil)) (mC (.int 200)))) [a0, a1', a2', some (.bl false), some (.str t), a5, some (.tup [.lst T, .ob no]), o7, o8, none] O = .ok (decide ((200 : Int) < m.length)) O := by
      rw [mt_or, show mTru (mVar 3) [a0, a1', a2', some (.bl false), some (.str t), a5, some (.tup [.lst T, .ob no]), o7, o8, none] O = .ok false O from rfl, bind_ok', if_neg Bool.false_ne_true, x4]
    unfold B_tl
    rw [ms_seq]
    by_cases hbig : (200 : Int) < m.length
    · rw [decide_eq_true hbig] at x5
      rw [if_yes x5]
      exact ⟨O, rfl⟩
    · rw [decide_eq_false hbig] at x5
      rw [if_no x5, ms_nil, seqF_nx]
      have h2 : (1 : Int) ≤ 200 ∧ (200 : Int) ≤ 200 := by decide
      obtain ⟨O2, o', no', T', r2, td2, n2, kp⟩ := e_rows h2 t ht its hit hi (by omega) O
      have rk1 := rn_ok hM.1 its s0 (s0_ok hM.1) hi
      have rk2 := rn_ok h2.1 its s0 (s0_ok h2.1) hi
      have rb1 := rn_b hM.1 its s0 (s0_ok hM.1) hi
      have rb2 := rn_b h2.1 its s0 (s0_ok h2.1) hi
      have td1' := td.keeps kp
      have l1 := rk1.1.len
      have l2 := rk2.1.len
      have j1 := e_joined td1' (kp _ _ n1) (fun x hx => by have := (rb1 x hx).1; omega) (by omega) (by omega)
      have j2 := e_joined td2.te n2 (fun x hx => by have := (rb2 x hx).1; omega) (by omega) (by omega)
      have hq : ∀ x ∈ its, Itm x.2.1 x.2.2 ∧ x.2.1 ≠ kAnew := fun x hx => ⟨hi x hx, hna x hx⟩
      have a1 := jn_al (M := M) its s0 [] [] hq rfl
      have a2 := jn_al (M := 200) its s0 [] [] hq rfl
      rw [← a2] at a1
      rw [a1] at j1
      have ok := jn_lay (rn 200 s0 its).2 (rn 200 s0 its).1.row td2.te.dues rk2.1.ok
      refine ⟨O2, ?_⟩
      have c1 : mCall c_rows_of (maCons (mVar 4) (maCons (mC (.int 200)) maNil)) [a0, a1', a2', some (.bl false), some (.str t), a5, some (.tup [.lst T, .ob no]), o7, o8, none] O = .ok (.tup [.lst T', .ob no']) O2 := (call_ok (maS rfl (ma1 rfl))).trans r2
      rw [ms_seq, ms_set, c1, setF_ok, seqF_nx, ms_ret]
      have c2 : mCall c_law_joined (maCons (mBin gIx (mVar 6) (mC (.int 0))) (maCons (mBin gIx (mVar 6) (mC (.int 1))) maNil)) [a0, a1', a2', some (.bl false), some (.str t), a5, some (.tup [.lst T, .ob no]), o7, o8, some (.tup [.lst T', .ob no'])] O2 = _ := (call_ok (maS (bin_ok rfl rfl rfl) (ma1 (bin_ok rfl rfl rfl)))).trans j1
      have c3 : mCall c_law_joined (maCons (mBin gIx (mVar 9) (mC (.int 0))) (maCons (mBin gIx (mVar 9) (mC (.int 1))) maNil)) [a0, a1', a2', some (.bl false), some (.str t), a5, some (.tup [.lst T, .ob no]), o7, o8, some (.tup [.lst T', .ob no'])] O2 = _ := (call_ok (maS (bin_ok rfl rfl rfl) (ma1 (bin_ok rfl rfl rfl)))).trans j2
      have c4 := bin_ok (g := gEq) c2 c3 (gEq_same ok)
      exact congrArg retF c4
theorem law_true (ns : List Int) (hns : ns.length ≤ 63) : ∃ O', c_law [.lst (ns.map D.int)] [] = .ok (.bl true) O' := by
  obtain ⟨v0, ec⟩ := e_cell ns []
  have m8 := e_mix v0 8 (by decide) (by decide) []
  have m9 := e_mix v0 9 (by decide) (by decide) []
  obtain ⟨d, hd, ed⟩ := ixL (l := [.int 1, .int 2, .int 3, .int 4, .int 5, .int 6, .int 7, .int 8, .int 9, .int 199, .int 200]) (v := mix v0 8) (n := 11) rfl (by decide)
  obtain ⟨M, rfl, hM⟩ : ∃ M : Int, d = .int M ∧ 1 ≤ M ∧ M ≤ 200 := by
    simp only [List.mem_cons, List.not_mem_nil, or_false] at hd
    rcases hd with rfl | rfl | rfl | rfl | rfl | rfl | rfl | rfl | rfl | rfl | rfl
    all_goals exact ⟨_, rfl, by decide, by decide⟩
  obtain ⟨b, hb⟩ : ∃ b : Bool, b = decide (mix v0 9 % 2 = 0) := ⟨_, rfl⟩
  have et := e_txt b ns [some (.lst (ns.map D.int)), some (.int v0), some (.int M), some (.bl b), none, none, none, none, none, none] rfl rfl []
  have l40 : ((ns.drop 1).take 40).length ≤ 40 := by rw [List.length_take]; omega
  have tl0 := (txt_len b ((ns.drop 1).take 40)).1
  obtain ⟨t, tx, el⟩ := e_long b v0 (txt b ((ns.drop 1).take 40)) (by omega) (txt_ok b _) (some (.lst (ns.map D.int))) (some (.int M)) (some (.bl b)) []
  have hlen := tx.len
  have hok : ∀ c ∈ t, (32 ≤ c ∧ c ≤ 125) ∨ c = 10 ∨ c = 9 := fun c hc => by
    rcases tx.ok c hc with h | h | h
    · exact .inl h
    · exact .inr (.inl h)
    · exact .inr (.inr h.1)
  have ht : Okt t := ⟨by omega, hok⟩
  obtain ⟨its, hit, hi, hl⟩ := items_it t.length t 0 (Nat.le_refl _) (fun c hc => by have := hok c hc; omega)
  have li := e_law_items t (by omega) []
  rw [hit] at li
  have lp := e_lparts hM its hi (by omega) []
  obtain ⟨O1, o, no, T, r1, td1, n1, _⟩ := e_rows hM t ht its hit hi (by omega) []
  have rk := (rn_ok hM.1 its s0 (s0_ok hM.1) hi).1
  have p1 := e_partsL td1
  have q1 := e_lrO (rn M s0 its).1.row rk.ok n1
  have rb := rn_b hM.1 its s0 (s0_ok hM.1) hi
  obtain ⟨o7, o8, ew⟩ := w_loop (M := M) (some (.lst (ns.map D.int))) (some (.int v0)) (some (.bl b)) (some (.str t)) (some (.tup [.lst ((rn M s0 its).2.map dueD), .lst ((rn M s0 its).1.row.map dL)])) (some (.tup [.lst T, .ob no])) none T (rn M s0 its).2 none none td1.te rb
  obtain ⟨O', etl⟩ := e_tl tx ht its hit hi hl hM td1.te n1 (some (.lst (ns.map D.int))) (some (.int v0)) (some (.int M)) (some (.tup [.lst ((rn M s0 its).2.map dueD), .lst ((rn M s0 its).1.row.map dL)])) o7 o8
  unfold B_w at ew
  unfold B_tl at etl
  have i0 : ∀ a b : D, gIx (.tup [a, b]) (.int 0) = some a := fun _ _ => rfl
  have i1 : ∀ a b : D, gIx (.tup [a, b]) (.int 1) = some b := fun _ _ => rfl
  have em : (mBin gIx (mLst (maCons (mC (.int 1)) (maCons (mC (.int 2)) (maCons (mC (.int 3)) (maCons (mC (.int 4)) (maCons (mC (.int 5)) (maCons (mC (.int 6)) (maCons (mC (.int 7)) (maCons (mC (.int 8)) (maCons (mC (.int 9)) (maCons (mC (.int 199)) (maCons (mC (.int 200)) maNil)))))))))))) (mBin gMod (mCall c_law_mix (maCons (mVar 1) (maCons (mC (.int 8)) maNil))) (mC (.int 11)))) [some (.lst (ns.map D.int)), some (.int v0), none, none, none, none, none, none, none, none] [] = .ok (.int M) [] := by
    refine bin_ok (x := .lst [.int 1, .int 2, .int 3, .int 4, .int 5, .int 6, .int 7, .int 8, .int 9, .int 199, .int 200]) rfl (mod_ok ((call_ok (maS rfl (ma1 rfl))).trans m8) m_c (by decide)) ?_
    rw [deref_lst, deref_int, ed]
  refine ⟨O', ?_⟩
  show funF (b_law [some (.lst (ns.map D.int)), none, none, none, none, none, none, none, none, none] []) = _
  unfold b_law
  simp only [ms_seq, ms_set, m_call, ma_cons, ma_nil, m_var, m_c, List.getElem?_cons_zero, List.getElem?_cons_succ, bind_ok', ec, setF_ok, seqF_nx, List.set_cons_succ, List.set_cons_zero]
  rw [em]
  simp only [setF_ok, seqF_nx, List.set_cons_succ, List.set_cons_zero, ms_seq, ms_set, m_bin, m_call, ma_cons, ma_nil, m_var, m_c, List.getElem?_cons_zero, List.getElem?_cons_succ, bind_ok', m9, deref_int, gMod_i, show (0 : Int) < 2 from by decide, if_true, ofO_some, gEq_i, ← hb]
  rw [et]
  simp only [setF_ok, seqF_nx, List.set_cons_succ, List.set_cons_zero, ms_seq]
  rw [el]
  simp only [setF_ok, seqF_nx, List.set_cons_succ, List.set_cons_zero, ms_seq, ms_set, m_call, ma_cons, ma_nil, m_var, m_c, List.getElem?_cons_zero, List.getElem?_cons_succ, bind_ok', li, lp, r1, ms_if, mt_or, mt_not, m_tru, m_bin, deref_tup, deref_int, i0, i1, ofO_some, p1, q1, deref_bl, truD_bl, ofB_some, Bool.not_true, Bool.false_eq_true, if_false, ifF_ok, ms_nil, ms_for, m_iter, iterD_lst, itF_some, forF_ok]
  rw [ew]
  rw [seqF_nx]
  have := congrArg funF etl
  exact this
theorem all_mk {l : PySem.W.OpenLaw} {w : World} {K : PySem.W.Frag} {h : Heap} {mg : Str → Option Value} {fa : Addr} (X : K.In h) (G : h.Ns mainGlobals mg) (hfa : mg "law" = some (.ref fa))
    {A_Reader : Addr}
    {A_Maker : Addr}
    {f_is_sign : Addr} {od_is_sign an_is_sign : Option Addr} {sl_is_sign : Array (Option Value)} {oc_is_sign kV_is_sign dc_is_sign pm_is_sign cd_is_sign ct_is_sign : Value}
    {f_is_colour : Addr} {od_is_colour an_is_colour : Option Addr} {sl_is_colour : Array (Option Value)} {oc_is_colour kV_is_colour dc_is_colour pm_is_colour cd_is_colour ct_is_colour : Value}
    {f_checked : Addr} {od_checked an_checked : Option Addr} {sl_checked : Array (Option Value)} {oc_checked kV_checked dc_checked pm_checked cd_checked ct_checked : Value}
    {f_mark_of : Addr} {od_mark_of an_mark_of : Option Addr} {sl_mark_of : Array (Option Value)} {oc_mark_of kV_mark_of dc_mark_of pm_mark_of cd_mark_of ct_mark_of : Value}
    {f_may_become_mark : Addr} {od_may_become_mark an_may_become_mark : Option Addr} {sl_may_become_mark : Array (Option Value)} {oc_may_become_mark kV_may_become_mark dc_may_become_mark pm_may_become_mark cd_may_become_mark ct_may_become_mark : Value}
    {f_own_item : Addr} {od_own_item an_own_item : Option Addr} {sl_own_item : Array (Option Value)} {oc_own_item kV_own_item dc_own_item pm_own_item cd_own_item ct_own_item : Value}
    {f_own_items : Addr} {od_own_items an_own_items : Option Addr} {sl_own_items : Array (Option Value)} {oc_own_items kV_own_items dc_own_items pm_own_items cd_own_items ct_own_items : Value}
    {f_Reader___init__ : Addr} {od_Reader___init__ an_Reader___init__ : Option Addr} {sl_Reader___init__ : Array (Option Value)} {oc_Reader___init__ kV_Reader___init__ dc_Reader___init__ pm_Reader___init__ cd_Reader___init__ ct_Reader___init__ : Value}
    {f_Reader_take : Addr} {od_Reader_take an_Reader_take : Option Addr} {sl_Reader_take : Array (Option Value)} {oc_Reader_take kV_Reader_take dc_Reader_take pm_Reader_take cd_Reader_take ct_Reader_take : Value}
    {f_Reader_feed : Addr} {od_Reader_feed an_Reader_feed : Option Addr} {sl_Reader_feed : Array (Option Value)} {oc_Reader_feed kV_Reader_feed dc_Reader_feed pm_Reader_feed cd_Reader_feed ct_Reader_feed : Value}
    {f_Reader_finish : Addr} {od_Reader_finish an_Reader_finish : Option Addr} {sl_Reader_finish : Array (Option Value)} {oc_Reader_finish kV_Reader_finish dc_Reader_finish pm_Reader_finish cd_Reader_finish ct_Reader_finish : Value}
    {f_items_of : Addr} {od_items_of an_items_of : Option Addr} {sl_items_of : Array (Option Value)} {oc_items_of kV_items_of dc_items_of pm_items_of cd_items_of ct_items_of : Value}
    {f_pair_behind : Addr} {od_pair_behind an_pair_behind : Option Addr} {sl_pair_behind : Array (Option Value)} {oc_pair_behind kV_pair_behind dc_pair_behind pm_pair_behind cd_pair_behind ct_pair_behind : Value}
    {f_is_whole : Addr} {od_is_whole an_is_whole : Option Addr} {sl_is_whole : Array (Option Value)} {oc_is_whole kV_is_whole dc_is_whole pm_is_whole cd_is_whole ct_is_whole : Value}
    {f_is_within : Addr} {od_is_within an_is_within : Option Addr} {sl_is_within : Array (Option Value)} {oc_is_within kV_is_within dc_is_within pm_is_within cd_is_within ct_is_within : Value}
    {f_Maker_begin_row : Addr} {od_Maker_begin_row an_Maker_begin_row : Option Addr} {sl_Maker_begin_row : Array (Option Value)} {oc_Maker_begin_row kV_Maker_begin_row dc_Maker_begin_row pm_Maker_begin_row cd_Maker_begin_row ct_Maker_begin_row : Value}
    {f_Maker___init__ : Addr} {od_Maker___init__ an_Maker___init__ : Option Addr} {sl_Maker___init__ : Array (Option Value)} {oc_Maker___init__ kV_Maker___init__ dc_Maker___init__ pm_Maker___init__ cd_Maker___init__ ct_Maker___init__ : Value}
    {f_Maker_tell : Addr} {od_Maker_tell an_Maker_tell : Option Addr} {sl_Maker_tell : Array (Option Value)} {oc_Maker_tell kV_Maker_tell dc_Maker_tell pm_Maker_tell cd_Maker_tell ct_Maker_tell : Value}
    {f_Maker_empty_stale : Addr} {od_Maker_empty_stale an_Maker_empty_stale : Option Addr} {sl_Maker_empty_stale : Array (Option Value)} {oc_Maker_empty_stale kV_Maker_empty_stale dc_Maker_empty_stale pm_Maker_empty_stale cd_Maker_empty_stale ct_Maker_empty_stale : Value}
    {f_Maker_add_letter : Addr} {od_Maker_add_letter an_Maker_add_letter : Option Addr} {sl_Maker_add_letter : Array (Option Value)} {oc_Maker_add_letter kV_Maker_add_letter dc_Maker_add_letter pm_Maker_add_letter cd_Maker_add_letter ct_Maker_add_letter : Value}
    {f_Maker_put : Addr} {od_Maker_put an_Maker_put : Option Addr} {sl_Maker_put : Array (Option Value)} {oc_Maker_put kV_Maker_put dc_Maker_put pm_Maker_put cd_Maker_put ct_Maker_put : Value}
    {f_Maker_open_letters : Addr} {od_Maker_open_letters an_Maker_open_letters : Option Addr} {sl_Maker_open_letters : Array (Option Value)} {oc_Maker_open_letters kV_Maker_open_letters dc_Maker_open_letters pm_Maker_open_letters cd_Maker_open_letters ct_Maker_open_letters : Value}
    {f_rows_of : Addr} {od_rows_of an_rows_of : Option Addr} {sl_rows_of : Array (Option Value)} {oc_rows_of kV_rows_of dc_rows_of pm_rows_of cd_rows_of ct_rows_of : Value}
    {f_law_cell : Addr} {od_law_cell an_law_cell : Option Addr} {sl_law_cell : Array (Option Value)} {oc_law_cell kV_law_cell dc_law_cell pm_law_cell cd_law_cell ct_law_cell : Value}
    {f_law_mix : Addr} {od_law_mix an_law_mix : Option Addr} {sl_law_mix : Array (Option Value)} {oc_law_mix kV_law_mix dc_law_mix pm_law_mix cd_law_mix ct_law_mix : Value}
    {f_law_item : Addr} {od_law_item an_law_item : Option Addr} {sl_law_item : Array (Option Value)} {oc_law_item kV_law_item dc_law_item pm_law_item cd_law_item ct_law_item : Value}
    {f_law_items : Addr} {od_law_items an_law_items : Option Addr} {sl_law_items : Array (Option Value)} {oc_law_items kV_law_items dc_law_items pm_law_items cd_law_items ct_law_items : Value}
    {f_law_parts : Addr} {od_law_parts an_law_parts : Option Addr} {sl_law_parts : Array (Option Value)} {oc_law_parts kV_law_parts dc_law_parts pm_law_parts cd_law_parts ct_law_parts : Value}
    {f_law_whole : Addr} {od_law_whole an_law_whole : Option Addr} {sl_law_whole : Array (Option Value)} {oc_law_whole kV_law_whole dc_law_whole pm_law_whole cd_law_whole ct_law_whole : Value}
    {f_law_letters_right : Addr} {od_law_letters_right an_law_letters_right : Option Addr} {sl_law_letters_right : Array (Option Value)} {oc_law_letters_right kV_law_letters_right dc_law_letters_right pm_law_letters_right cd_law_letters_right ct_law_letters_right : Value}
    {f_law_parts_right : Addr} {od_law_parts_right an_law_parts_right : Option Addr} {sl_law_parts_right : Array (Option Value)} {oc_law_parts_right kV_law_parts_right dc_law_parts_right pm_law_parts_right cd_law_parts_right ct_law_parts_right : Value}
    {f_law_piece : Addr} {od_law_piece an_law_piece : Option Addr} {sl_law_piece : Array (Option Value)} {oc_law_piece kV_law_piece dc_law_piece pm_law_piece cd_law_piece ct_law_piece : Value}
    {f_law_joined : Addr} {od_law_joined an_law_joined : Option Addr} {sl_law_joined : Array (Option Value)} {oc_law_joined kV_law_joined dc_law_joined pm_law_joined cd_law_joined ct_law_joined : Value}
    {f_law : Addr} {od_law an_law : Option Addr} {sl_law : Array (Option Value)} {oc_law kV_law dc_law pm_law cd_law ct_law : Value}
    {u_ANEW_SIGN : Value}
    {u_COLOURS : Value}
    {u_FIRST_SIGN : Value}
    {u_GREATEST_MOST : Value}
    {u_LAST_SIGN : Value}
    {ad_PLAIN : Addr} {oc_PLAIN : Value} {od_PLAIN : Option Addr} {it_PLAIN : Array Value} {nn_PLAIN : Nat} {sl_PLAIN : Array (Option Value)}
    {u_ROW_END : Value}
    (aC_Reader : PySem.W.nsIn K mainGlobals "Reader" = some (some (.ref A_Reader)))
    (pg_Reader : PySem.W.plainGet K A_Reader Str.empty = true)
    (hd_Reader : PySem.W.hasDictIn K A_Reader = true)
    (po_Reader : PySem.W.plainOver K A_Reader = true)
    (sa_Reader : PySem.W.findIn K (.ref A_Reader) "__setattr__" = some (some (.builtin "object.__setattr__")))
    (mk_Reader : PySem.W.makesIn K A_Reader = true)
    (kc_Reader : PySem.W.keepIn K (.ref A_Reader) = true)
    (n_held_Reader : PySem.W.findIn K (.ref A_Reader) "held" = some none)
    (n_place_Reader : PySem.W.findIn K (.ref A_Reader) "place" = some none)
    (aC_Maker : PySem.W.nsIn K mainGlobals "Maker" = some (some (.ref A_Maker)))
    (pg_Maker : PySem.W.plainGet K A_Maker Str.empty = true)
    (hd_Maker : PySem.W.hasDictIn K A_Maker = true)
    (po_Maker : PySem.W.plainOver K A_Maker = true)
    (sa_Maker : PySem.W.findIn K (.ref A_Maker) "__setattr__" = some (some (.builtin "object.__setattr__")))
    (mk_Maker : PySem.W.makesIn K A_Maker = true)
    (kc_Maker : PySem.W.keepIn K (.ref A_Maker) = true)
    (n_last_word_Maker : PySem.W.findIn K (.ref A_Maker) "last_word" = some none)
    (n_letters_Maker : PySem.W.findIn K (.ref A_Maker) "letters" = some none)
    (n_most_Maker : PySem.W.findIn K (.ref A_Maker) "most" = some none)
    (n_pair_Maker : PySem.W.findIn K (.ref A_Maker) "pair" = some none)
    (n_stale_Maker : PySem.W.findIn K (.ref A_Maker) "stale" = some none)
    (a_is_sign : PySem.W.nsIn K mainGlobals "is_sign" = some (some (.ref f_is_sign)))
    (l_is_sign : K.lookup f_is_sign = some ⟨oc_is_sign, od_is_sign, .func (PySem.W.fnOf "is_sign" "is_sign" (defArgs s_is_sign) (defBody s_is_sign) (defScope s_is_sign) .none kV_is_sign dc_is_sign pm_is_sign an_is_sign cd_is_sign ct_is_sign), sl_is_sign⟩) (cc_is_sign : PySem.W.codeIn K cd_is_sign "is_sign" = true) (k_is_sign : PySem.W.keepIn K (.ref f_is_sign) = true)
    (a_is_colour : PySem.W.nsIn K mainGlobals "is_colour" = some (some (.ref f_is_colour)))
    (l_is_colour : K.lookup f_is_colour = some ⟨oc_is_colour, od_is_colour, .func (PySem.W.fnOf "is_colour" "is_colour" (defArgs s_is_colour) (defBody s_is_colour) (defScope s_is_colour) .none kV_is_colour dc_is_colour pm_is_colour an_is_colour cd_is_colour ct_is_colour), sl_is_colour⟩) (cc_is_colour : PySem.W.codeIn K cd_is_colour "is_colour" = true) (k_is_colour : PySem.W.keepIn K (.ref f_is_colour) = true)
    (a_checked : PySem.W.nsIn K mainGlobals "checked" = some (some (.ref f_checked)))
    (l_checked : K.lookup f_checked = some ⟨oc_checked, od_checked, .func (PySem.W.fnOf "checked" "checked" (defArgs s_checked) (defBody s_checked) (defScope s_checked) .none kV_checked dc_checked pm_checked an_checked cd_checked ct_checked), sl_checked⟩) (cc_checked : PySem.W.codeIn K cd_checked "checked" = true) (k_checked : PySem.W.keepIn K (.ref f_checked) = true)
    (a_mark_of : PySem.W.nsIn K mainGlobals "mark_of" = some (some (.ref f_mark_of)))
    (l_mark_of : K.lookup f_mark_of = some ⟨oc_mark_of, od_mark_of, .func (PySem.W.fnOf "mark_of" "mark_of" (defArgs s_mark_of) (defBody s_mark_of) (defScope s_mark_of) .none kV_mark_of dc_mark_of pm_mark_of an_mark_of cd_mark_of ct_mark_of), sl_mark_of⟩) (cc_mark_of : PySem.W.codeIn K cd_mark_of "mark_of" = true) (k_mark_of : PySem.W.keepIn K (.ref f_mark_of) = true)
    (a_may_become_mark : PySem.W.nsIn K mainGlobals "may_become_mark" = some (some (.ref f_may_become_mark)))
    (l_may_become_mark : K.lookup f_may_become_mark = some ⟨oc_may_become_mark, od_may_become_mark, .func (PySem.W.fnOf "may_become_mark" "may_become_mark" (defArgs s_may_become_mark) (defBody s_may_become_mark) (defScope s_may_become_mark) .none kV_may_become_mark dc_may_become_mark pm_may_become_mark an_may_become_mark cd_may_become_mark ct_may_become_mark), sl_may_become_mark⟩) (cc_may_become_mark : PySem.W.codeIn K cd_may_become_mark "may_become_mark" = true) (k_may_become_mark : PySem.W.keepIn K (.ref f_may_become_mark) = true)
    (a_own_item : PySem.W.nsIn K mainGlobals "own_item" = some (some (.ref f_own_item)))
    (l_own_item : K.lookup f_own_item = some ⟨oc_own_item, od_own_item, .func (PySem.W.fnOf "own_item" "own_item" (defArgs s_own_item) (defBody s_own_item) (defScope s_own_item) .none kV_own_item dc_own_item pm_own_item an_own_item cd_own_item ct_own_item), sl_own_item⟩) (cc_own_item : PySem.W.codeIn K cd_own_item "own_item" = true) (k_own_item : PySem.W.keepIn K (.ref f_own_item) = true)
    (a_own_items : PySem.W.nsIn K mainGlobals "own_items" = some (some (.ref f_own_items)))
    (l_own_items : K.lookup f_own_items = some ⟨oc_own_items, od_own_items, .func (PySem.W.fnOf "own_items" "own_items" (defArgs s_own_items) (defBody s_own_items) (defScope s_own_items) .none kV_own_items dc_own_items pm_own_items an_own_items cd_own_items ct_own_items), sl_own_items⟩) (cc_own_items : PySem.W.codeIn K cd_own_items "own_items" = true) (k_own_items : PySem.W.keepIn K (.ref f_own_items) = true)
    (a_Reader___init__ : PySem.W.findIn K (.ref A_Reader) "__init__" = some (some (.ref f_Reader___init__))) (i_Reader___init__ : PySem.W.isFn K (.ref f_Reader___init__) = true)
    (l_Reader___init__ : K.lookup f_Reader___init__ = some ⟨oc_Reader___init__, od_Reader___init__, .func (PySem.W.fnOf "__init__" "Reader.__init__" (defArgs s_Reader___init__) (defBody s_Reader___init__) (defScope s_Reader___init__) .none kV_Reader___init__ dc_Reader___init__ pm_Reader___init__ an_Reader___init__ cd_Reader___init__ ct_Reader___init__), sl_Reader___init__⟩) (cc_Reader___init__ : PySem.W.codeIn K cd_Reader___init__ "Reader.__init__" = true) (k_Reader___init__ : PySem.W.keepIn K (.ref f_Reader___init__) = true)
    (a_Reader_take : PySem.W.findIn K (.ref A_Reader) "take" = some (some (.ref f_Reader_take))) (i_Reader_take : PySem.W.isFn K (.ref f_Reader_take) = true)
    (l_Reader_take : K.lookup f_Reader_take = some ⟨oc_Reader_take, od_Reader_take, .func (PySem.W.fnOf "take" "Reader.take" (defArgs s_Reader_take) (defBody s_Reader_take) (defScope s_Reader_take) .none kV_Reader_take dc_Reader_take pm_Reader_take an_Reader_take cd_Reader_take ct_Reader_take), sl_Reader_take⟩) (cc_Reader_take : PySem.W.codeIn K cd_Reader_take "Reader.take" = true) (k_Reader_take : PySem.W.keepIn K (.ref f_Reader_take) = true)
    (a_Reader_feed : PySem.W.findIn K (.ref A_Reader) "feed" = some (some (.ref f_Reader_feed))) (i_Reader_feed : PySem.W.isFn K (.ref f_Reader_feed) = true)
    (l_Reader_feed : K.lookup f_Reader_feed = some ⟨oc_Reader_feed, od_Reader_feed, .func (PySem.W.fnOf "feed" "Reader.feed" (defArgs s_Reader_feed) (defBody s_Reader_feed) (defScope s_Reader_feed) .none kV_Reader_feed dc_Reader_feed pm_Reader_feed an_Reader_feed cd_Reader_feed ct_Reader_feed), sl_Reader_feed⟩) (cc_Reader_feed : PySem.W.codeIn K cd_Reader_feed "Reader.feed" = true) (k_Reader_feed : PySem.W.keepIn K (.ref f_Reader_feed) = true)
    (a_Reader_finish : PySem.W.findIn K (.ref A_Reader) "finish" = some (some (.ref f_Reader_finish))) (i_Reader_finish : PySem.W.isFn K (.ref f_Reader_finish) = true)
    (l_Reader_finish : K.lookup f_Reader_finish = some ⟨oc_Reader_finish, od_Reader_finish, .func (PySem.W.fnOf "finish" "Reader.finish" (defArgs s_Reader_finish) (defBody s_Reader_finish) (defScope s_Reader_finish) .none kV_Reader_finish dc_Reader_finish pm_Reader_finish an_Reader_finish cd_Reader_finish ct_Reader_finish), sl_Reader_finish⟩) (cc_Reader_finish : PySem.W.codeIn K cd_Reader_finish "Reader.finish" = true) (k_Reader_finish : PySem.W.keepIn K (.ref f_Reader_finish) = true)
    (a_items_of : PySem.W.nsIn K mainGlobals "items_of" = some (some (.ref f_items_of)))
    (l_items_of : K.lookup f_items_of = some ⟨oc_items_of, od_items_of, .func (PySem.W.fnOf "items_of" "items_of" (defArgs s_items_of) (defBody s_items_of) (defScope s_items_of) .none kV_items_of dc_items_of pm_items_of an_items_of cd_items_of ct_items_of), sl_items_of⟩) (cc_items_of : PySem.W.codeIn K cd_items_of "items_of" = true) (k_items_of : PySem.W.keepIn K (.ref f_items_of) = true)
    (a_pair_behind : PySem.W.nsIn K mainGlobals "pair_behind" = some (some (.ref f_pair_behind)))
    (l_pair_behind : K.lookup f_pair_behind = some ⟨oc_pair_behind, od_pair_behind, .func (PySem.W.fnOf "pair_behind" "pair_behind" (defArgs s_pair_behind) (defBody s_pair_behind) (defScope s_pair_behind) .none kV_pair_behind dc_pair_behind pm_pair_behind an_pair_behind cd_pair_behind ct_pair_behind), sl_pair_behind⟩) (cc_pair_behind : PySem.W.codeIn K cd_pair_behind "pair_behind" = true) (k_pair_behind : PySem.W.keepIn K (.ref f_pair_behind) = true)
    (a_is_whole : PySem.W.nsIn K mainGlobals "is_whole" = some (some (.ref f_is_whole)))
    (l_is_whole : K.lookup f_is_whole = some ⟨oc_is_whole, od_is_whole, .func (PySem.W.fnOf "is_whole" "is_whole" (defArgs s_is_whole) (defBody s_is_whole) (defScope s_is_whole) .none kV_is_whole dc_is_whole pm_is_whole an_is_whole cd_is_whole ct_is_whole), sl_is_whole⟩) (cc_is_whole : PySem.W.codeIn K cd_is_whole "is_whole" = true) (k_is_whole : PySem.W.keepIn K (.ref f_is_whole) = true)
    (a_is_within : PySem.W.nsIn K mainGlobals "is_within" = some (some (.ref f_is_within)))
    (l_is_within : K.lookup f_is_within = some ⟨oc_is_within, od_is_within, .func (PySem.W.fnOf "is_within" "is_within" (defArgs s_is_within) (defBody s_is_within) (defScope s_is_within) .none kV_is_within dc_is_within pm_is_within an_is_within cd_is_within ct_is_within), sl_is_within⟩) (cc_is_within : PySem.W.codeIn K cd_is_within "is_within" = true) (k_is_within : PySem.W.keepIn K (.ref f_is_within) = true)
    (a_Maker_begin_row : PySem.W.findIn K (.ref A_Maker) "begin_row" = some (some (.ref f_Maker_begin_row))) (i_Maker_begin_row : PySem.W.isFn K (.ref f_Maker_begin_row) = true)
    (l_Maker_begin_row : K.lookup f_Maker_begin_row = some ⟨oc_Maker_begin_row, od_Maker_begin_row, .func (PySem.W.fnOf "begin_row" "Maker.begin_row" (defArgs s_Maker_begin_row) (defBody s_Maker_begin_row) (defScope s_Maker_begin_row) .none kV_Maker_begin_row dc_Maker_begin_row pm_Maker_begin_row an_Maker_begin_row cd_Maker_begin_row ct_Maker_begin_row), sl_Maker_begin_row⟩) (cc_Maker_begin_row : PySem.W.codeIn K cd_Maker_begin_row "Maker.begin_row" = true) (k_Maker_begin_row : PySem.W.keepIn K (.ref f_Maker_begin_row) = true)
    (a_Maker___init__ : PySem.W.findIn K (.ref A_Maker) "__init__" = some (some (.ref f_Maker___init__))) (i_Maker___init__ : PySem.W.isFn K (.ref f_Maker___init__) = true)
    (l_Maker___init__ : K.lookup f_Maker___init__ = some ⟨oc_Maker___init__, od_Maker___init__, .func (PySem.W.fnOf "__init__" "Maker.__init__" (defArgs s_Maker___init__) (defBody s_Maker___init__) (defScope s_Maker___init__) .none kV_Maker___init__ dc_Maker___init__ pm_Maker___init__ an_Maker___init__ cd_Maker___init__ ct_Maker___init__), sl_Maker___init__⟩) (cc_Maker___init__ : PySem.W.codeIn K cd_Maker___init__ "Maker.__init__" = true) (k_Maker___init__ : PySem.W.keepIn K (.ref f_Maker___init__) = true)
    (a_Maker_tell : PySem.W.findIn K (.ref A_Maker) "tell" = some (some (.ref f_Maker_tell))) (i_Maker_tell : PySem.W.isFn K (.ref f_Maker_tell) = true)
    (l_Maker_tell : K.lookup f_Maker_tell = some ⟨oc_Maker_tell, od_Maker_tell, .func (PySem.W.fnOf "tell" "Maker.tell" (defArgs s_Maker_tell) (defBody s_Maker_tell) (defScope s_Maker_tell) .none kV_Maker_tell dc_Maker_tell pm_Maker_tell an_Maker_tell cd_Maker_tell ct_Maker_tell), sl_Maker_tell⟩) (cc_Maker_tell : PySem.W.codeIn K cd_Maker_tell "Maker.tell" = true) (k_Maker_tell : PySem.W.keepIn K (.ref f_Maker_tell) = true)
    (a_Maker_empty_stale : PySem.W.findIn K (.ref A_Maker) "empty_stale" = some (some (.ref f_Maker_empty_stale))) (i_Maker_empty_stale : PySem.W.isFn K (.ref f_Maker_empty_stale) = true)
    (l_Maker_empty_stale : K.lookup f_Maker_empty_stale = some ⟨oc_Maker_empty_stale, od_Maker_empty_stale, .func (PySem.W.fnOf "empty_stale" "Maker.empty_stale" (defArgs s_Maker_empty_stale) (defBody s_Maker_empty_stale) (defScope s_Maker_empty_stale) .none kV_Maker_empty_stale dc_Maker_empty_stale pm_Maker_empty_stale an_Maker_empty_stale cd_Maker_empty_stale ct_Maker_empty_stale), sl_Maker_empty_stale⟩) (cc_Maker_empty_stale : PySem.W.codeIn K cd_Maker_empty_stale "Maker.empty_stale" = true) (k_Maker_empty_stale : PySem.W.keepIn K (.ref f_Maker_empty_stale) = true)
    (a_Maker_add_letter : PySem.W.findIn K (.ref A_Maker) "add_letter" = some (some (.ref f_Maker_add_letter))) (i_Maker_add_letter : PySem.W.isFn K (.ref f_Maker_add_letter) = true)
    (l_Maker_add_letter : K.lookup f_Maker_add_letter = some ⟨oc_Maker_add_letter, od_Maker_add_letter, .func (PySem.W.fnOf "add_letter" "Maker.add_letter" (defArgs s_Maker_add_letter) (defBody s_Maker_add_letter) (defScope s_Maker_add_letter) .none kV_Maker_add_letter dc_Maker_add_letter pm_Maker_add_letter an_Maker_add_letter cd_Maker_add_letter ct_Maker_add_letter), sl_Maker_add_letter⟩) (cc_Maker_add_letter : PySem.W.codeIn K cd_Maker_add_letter "Maker.add_letter" = true) (k_Maker_add_letter : PySem.W.keepIn K (.ref f_Maker_add_letter) = true)
    (a_Maker_put : PySem.W.findIn K (.ref A_Maker) "put" = some (some (.ref f_Maker_put))) (i_Maker_put : PySem.W.isFn K (.ref f_Maker_put) = true)
    (l_Maker_put : K.lookup f_Maker_put = some ⟨oc_Maker_put, od_Maker_put, .func (PySem.W.fnOf "put" "Maker.put" (defArgs s_Maker_put) (defBody s_Maker_put) (defScope s_Maker_put) .none kV_Maker_put dc_Maker_put pm_Maker_put an_Maker_put cd_Maker_put ct_Maker_put), sl_Maker_put⟩) (cc_Maker_put : PySem.W.codeIn K cd_Maker_put "Maker.put" = true) (k_Maker_put : PySem.W.keepIn K (.ref f_Maker_put) = true)
    (a_Maker_open_letters : PySem.W.findIn K (.ref A_Maker) "open_letters" = some (some (.ref f_Maker_open_letters))) (i_Maker_open_letters : PySem.W.isFn K (.ref f_Maker_open_letters) = true)
    (l_Maker_open_letters : K.lookup f_Maker_open_letters = some ⟨oc_Maker_open_letters, od_Maker_open_letters, .func (PySem.W.fnOf "open_letters" "Maker.open_letters" (defArgs s_Maker_open_letters) (defBody s_Maker_open_letters) (defScope s_Maker_open_letters) .none kV_Maker_open_letters dc_Maker_open_letters pm_Maker_open_letters an_Maker_open_letters cd_Maker_open_letters ct_Maker_open_letters), sl_Maker_open_letters⟩) (cc_Maker_open_letters : PySem.W.codeIn K cd_Maker_open_letters "Maker.open_letters" = true) (k_Maker_open_letters : PySem.W.keepIn K (.ref f_Maker_open_letters) = true)
    (a_rows_of : PySem.W.nsIn K mainGlobals "rows_of" = some (some (.ref f_rows_of)))
    (l_rows_of : K.lookup f_rows_of = some ⟨oc_rows_of, od_rows_of, .func (PySem.W.fnOf "rows_of" "rows_of" (defArgs s_rows_of) (defBody s_rows_of) (defScope s_rows_of) .none kV_rows_of dc_rows_of pm_rows_of an_rows_of cd_rows_of ct_rows_of), sl_rows_of⟩) (cc_rows_of : PySem.W.codeIn K cd_rows_of "rows_of" = true) (k_rows_of : PySem.W.keepIn K (.ref f_rows_of) = true)
    (a_law_cell : PySem.W.nsIn K mainGlobals "_law_cell" = some (some (.ref f_law_cell)))
    (l_law_cell : K.lookup f_law_cell = some ⟨oc_law_cell, od_law_cell, .func (PySem.W.fnOf "_law_cell" "_law_cell" (defArgs s_law_cell) (defBody s_law_cell) (defScope s_law_cell) .none kV_law_cell dc_law_cell pm_law_cell an_law_cell cd_law_cell ct_law_cell), sl_law_cell⟩) (cc_law_cell : PySem.W.codeIn K cd_law_cell "_law_cell" = true) (k_law_cell : PySem.W.keepIn K (.ref f_law_cell) = true)
    (a_law_mix : PySem.W.nsIn K mainGlobals "_law_mix" = some (some (.ref f_law_mix)))
    (l_law_mix : K.lookup f_law_mix = some ⟨oc_law_mix, od_law_mix, .func (PySem.W.fnOf "_law_mix" "_law_mix" (defArgs s_law_mix) (defBody s_law_mix) (defScope s_law_mix) .none kV_law_mix dc_law_mix pm_law_mix an_law_mix cd_law_mix ct_law_mix), sl_law_mix⟩) (cc_law_mix : PySem.W.codeIn K cd_law_mix "_law_mix" = true) (k_law_mix : PySem.W.keepIn K (.ref f_law_mix) = true)
    (a_law_item : PySem.W.nsIn K mainGlobals "_law_item" = some (some (.ref f_law_item)))
    (l_law_item : K.lookup f_law_item = some ⟨oc_law_item, od_law_item, .func (PySem.W.fnOf "_law_item" "_law_item" (defArgs s_law_item) (defBody s_law_item) (defScope s_law_item) .none kV_law_item dc_law_item pm_law_item an_law_item cd_law_item ct_law_item), sl_law_item⟩) (cc_law_item : PySem.W.codeIn K cd_law_item "_law_item" = true) (k_law_item : PySem.W.keepIn K (.ref f_law_item) = true)
    (a_law_items : PySem.W.nsIn K mainGlobals "_law_items" = some (some (.ref f_law_items)))
    (l_law_items : K.lookup f_law_items = some ⟨oc_law_items, od_law_items, .func (PySem.W.fnOf "_law_items" "_law_items" (defArgs s_law_items) (defBody s_law_items) (defScope s_law_items) .none kV_law_items dc_law_items pm_law_items an_law_items cd_law_items ct_law_items), sl_law_items⟩) (cc_law_items : PySem.W.codeIn K cd_law_items "_law_items" = true) (k_law_items : PySem.W.keepIn K (.ref f_law_items) = true)
    (a_law_parts : PySem.W.nsIn K mainGlobals "_law_parts" = some (some (.ref f_law_parts)))
    (l_law_parts : K.lookup f_law_parts = some ⟨oc_law_parts, od_law_parts, .func (PySem.W.fnOf "_law_parts" "_law_parts" (defArgs s_law_parts) (defBody s_law_parts) (defScope s_law_parts) .none kV_law_parts dc_law_parts pm_law_parts an_law_parts cd_law_parts ct_law_parts), sl_law_parts⟩) (cc_law_parts : PySem.W.codeIn K cd_law_parts "_law_parts" = true) (k_law_parts : PySem.W.keepIn K (.ref f_law_parts) = true)
    (a_law_whole : PySem.W.nsIn K mainGlobals "_law_whole" = some (some (.ref f_law_whole)))
    (l_law_whole : K.lookup f_law_whole = some ⟨oc_law_whole, od_law_whole, .func (PySem.W.fnOf "_law_whole" "_law_whole" (defArgs s_law_whole) (defBody s_law_whole) (defScope s_law_whole) .none kV_law_whole dc_law_whole pm_law_whole an_law_whole cd_law_whole ct_law_whole), sl_law_whole⟩) (cc_law_whole : PySem.W.codeIn K cd_law_whole "_law_whole" = true) (k_law_whole : PySem.W.keepIn K (.ref f_law_whole) = true)
    (a_law_letters_right : PySem.W.nsIn K mainGlobals "_law_letters_right" = some (some (.ref f_law_letters_right)))
    (l_law_letters_right : K.lookup f_law_letters_right = some ⟨oc_law_letters_right, od_law_letters_right, .func (PySem.W.fnOf "_law_letters_right" "_law_letters_right" (defArgs s_law_letters_right) (defBody s_law_letters_right) (defScope s_law_letters_right) .none kV_law_letters_right dc_law_letters_right pm_law_letters_right an_law_letters_right cd_law_letters_right ct_law_letters_right), sl_law_letters_right⟩) (cc_law_letters_right : PySem.W.codeIn K cd_law_letters_right "_law_letters_right" = true) (k_law_letters_right : PySem.W.keepIn K (.ref f_law_letters_right) = true)
    (a_law_parts_right : PySem.W.nsIn K mainGlobals "_law_parts_right" = some (some (.ref f_law_parts_right)))
    (l_law_parts_right : K.lookup f_law_parts_right = some ⟨oc_law_parts_right, od_law_parts_right, .func (PySem.W.fnOf "_law_parts_right" "_law_parts_right" (defArgs s_law_parts_right) (defBody s_law_parts_right) (defScope s_law_parts_right) .none kV_law_parts_right dc_law_parts_right pm_law_parts_right an_law_parts_right cd_law_parts_right ct_law_parts_right), sl_law_parts_right⟩) (cc_law_parts_right : PySem.W.codeIn K cd_law_parts_right "_law_parts_right" = true) (k_law_parts_right : PySem.W.keepIn K (.ref f_law_parts_right) = true)
    (a_law_piece : PySem.W.nsIn K mainGlobals "_law_piece" = some (some (.ref f_law_piece)))
    (l_law_piece : K.lookup f_law_piece = some ⟨oc_law_piece, od_law_piece, .func (PySem.W.fnOf "_law_piece" "_law_piece" (defArgs s_law_piece) (defBody s_law_piece) (defScope s_law_piece) .none kV_law_piece dc_law_piece pm_law_piece an_law_piece cd_law_piece ct_law_piece), sl_law_piece⟩) (cc_law_piece : PySem.W.codeIn K cd_law_piece "_law_piece" = true) (k_law_piece : PySem.W.keepIn K (.ref f_law_piece) = true)
    (a_law_joined : PySem.W.nsIn K mainGlobals "_law_joined" = some (some (.ref f_law_joined)))
    (l_law_joined : K.lookup f_law_joined = some ⟨oc_law_joined, od_law_joined, .func (PySem.W.fnOf "_law_joined" "_law_joined" (defArgs s_law_joined) (defBody s_law_joined) (defScope s_law_joined) .none kV_law_joined dc_law_joined pm_law_joined an_law_joined cd_law_joined ct_law_joined), sl_law_joined⟩) (cc_law_joined : PySem.W.codeIn K cd_law_joined "_law_joined" = true) (k_law_joined : PySem.W.keepIn K (.ref f_law_joined) = true)
    (a_law : PySem.W.nsIn K mainGlobals "law" = some (some (.ref f_law)))
    (l_law : K.lookup f_law = some ⟨oc_law, od_law, .func (PySem.W.fnOf "law" "law" (defArgs s_law) (defBody s_law) (defScope s_law) .none kV_law dc_law pm_law an_law cd_law ct_law), sl_law⟩) (cc_law : PySem.W.codeIn K cd_law "law" = true) (k_law : PySem.W.keepIn K (.ref f_law) = true)
    (z_len : PySem.W.nsIn K mainGlobals "len" = some none)
    (z_isinstance : PySem.W.nsIn K mainGlobals "isinstance" = some none)
    (z_all : PySem.W.nsIn K mainGlobals "all" = some none)
    (z_sum : PySem.W.nsIn K mainGlobals "sum" = some none)
    (z_max : PySem.W.nsIn K mainGlobals "max" = some none)
    (z_min : PySem.W.nsIn K mainGlobals "min" = some none)
    (z_int : PySem.W.nsIn K mainGlobals "int" = some none)
    (z_str : PySem.W.nsIn K mainGlobals "str" = some none)
    (z_bool : PySem.W.nsIn K mainGlobals "bool" = some none)
    (z_list : PySem.W.nsIn K mainGlobals "list" = some none)
    (z_tuple : PySem.W.nsIn K mainGlobals "tuple" = some none)
    (z_dict : PySem.W.nsIn K mainGlobals "dict" = some none)
    (z_range : PySem.W.nsIn K mainGlobals "range" = some none)
    (z_enumerate : PySem.W.nsIn K mainGlobals "enumerate" = some none)
    (z_zip : PySem.W.nsIn K mainGlobals "zip" = some none)
    (a_c_ANEW_SIGN : PySem.W.nsIn K mainGlobals "ANEW_SIGN" = some (some u_ANEW_SIGN)) (r_ANEW_SIGN : RelV (.str (S [9])) u_ANEW_SIGN)
    (a_c_COLOURS : PySem.W.nsIn K mainGlobals "COLOURS" = some (some u_COLOURS)) (r_COLOURS : RelV (.str (S [97, 98, 99, 100, 101, 102, 103, 104, 46])) u_COLOURS)
    (a_c_FIRST_SIGN : PySem.W.nsIn K mainGlobals "FIRST_SIGN" = some (some u_FIRST_SIGN)) (r_FIRST_SIGN : RelV (.str (S [32])) u_FIRST_SIGN)
    (a_c_GREATEST_MOST : PySem.W.nsIn K mainGlobals "GREATEST_MOST" = some (some u_GREATEST_MOST)) (r_GREATEST_MOST : RelV (.int 200) u_GREATEST_MOST)
    (a_c_LAST_SIGN : PySem.W.nsIn K mainGlobals "LAST_SIGN" = some (some u_LAST_SIGN)) (r_LAST_SIGN : RelV (.str (S [125])) u_LAST_SIGN)
    (a_c_PLAIN : PySem.W.nsIn K mainGlobals "PLAIN" = some (some (.ref ad_PLAIN))) (l_c_PLAIN : K.lookup ad_PLAIN = some ⟨oc_PLAIN, od_PLAIN, .seq it_PLAIN nn_PLAIN, sl_PLAIN⟩) (t_c_PLAIN : oc_PLAIN = .type "tuple") (z_c_PLAIN : it_PLAIN.size ≤ sizeLine) (v_c_PLAIN : Vals (List.map (fun l => V.str (S l)) [[46], [46]]) it_PLAIN.toList)
    (a_c_ROW_END : PySem.W.nsIn K mainGlobals "ROW_END" = some (some u_ROW_END)) (r_ROW_END : RelV (.str (S [10])) u_ROW_END) :
    ∃ fd : FuncData, (∀ (s : Shared) (v : Value), BindsTo s fd ⟨[v], []⟩ [("_law_script", v)]) ∧ ∀ base : Heap, K.In base → base.Ns mainGlobals mg → FnOk l.prog w K mg base CX0 7 fa fd ["_law_script"] (sp_law K) := by
  have e := hfa.symm.trans (PySem.W.mg_of X G a_law)
  cases e
  have cl_Reader : Cls K A_Reader := ⟨pg_Reader, hd_Reader, po_Reader, sa_Reader⟩
  have K_Reader_held : KC K mg "Reader" "held" := ⟨_, PySem.W.mg_of X G aC_Reader, cl_Reader, n_held_Reader⟩
  have K_Reader_place : KC K mg "Reader" "place" := ⟨_, PySem.W.mg_of X G aC_Reader, cl_Reader, n_place_Reader⟩
  have cl_Maker : Cls K A_Maker := ⟨pg_Maker, hd_Maker, po_Maker, sa_Maker⟩
  have K_Maker_last_word : KC K mg "Maker" "last_word" := ⟨_, PySem.W.mg_of X G aC_Maker, cl_Maker, n_last_word_Maker⟩
  have K_Maker_letters : KC K mg "Maker" "letters" := ⟨_, PySem.W.mg_of X G aC_Maker, cl_Maker, n_letters_Maker⟩
  have K_Maker_most : KC K mg "Maker" "most" := ⟨_, PySem.W.mg_of X G aC_Maker, cl_Maker, n_most_Maker⟩
  have K_Maker_pair : KC K mg "Maker" "pair" := ⟨_, PySem.W.mg_of X G aC_Maker, cl_Maker, n_pair_Maker⟩
  have K_Maker_stale : KC K mg "Maker" "stale" := ⟨_, PySem.W.mg_of X G aC_Maker, cl_Maker, n_stale_Maker⟩
  have D_is_sign : Def K mg "is_sign" s_is_sign := ⟨_, _, PySem.W.mg_of X G a_is_sign, fun_mk (st := s_is_sign) l_is_sign cc_is_sign k_is_sign⟩
  have D_is_colour : Def K mg "is_colour" s_is_colour := ⟨_, _, PySem.W.mg_of X G a_is_colour, fun_mk (st := s_is_colour) l_is_colour cc_is_colour k_is_colour⟩
  have D_checked : Def K mg "checked" s_checked := ⟨_, _, PySem.W.mg_of X G a_checked, fun_mk (st := s_checked) l_checked cc_checked k_checked⟩
  have D_mark_of : Def K mg "mark_of" s_mark_of := ⟨_, _, PySem.W.mg_of X G a_mark_of, fun_mk (st := s_mark_of) l_mark_of cc_mark_of k_mark_of⟩
  have D_may_become_mark : Def K mg "may_become_mark" s_may_become_mark := ⟨_, _, PySem.W.mg_of X G a_may_become_mark, fun_mk (st := s_may_become_mark) l_may_become_mark cc_may_become_mark k_may_become_mark⟩
  have D_own_item : Def K mg "own_item" s_own_item := ⟨_, _, PySem.W.mg_of X G a_own_item, fun_mk (st := s_own_item) l_own_item cc_own_item k_own_item⟩
  have D_own_items : Def K mg "own_items" s_own_items := ⟨_, _, PySem.W.mg_of X G a_own_items, fun_mk (st := s_own_items) l_own_items cc_own_items k_own_items⟩
  have D_Reader___init__ : DefC K mg "Reader" "Reader.__init__" s_Reader___init__ := ⟨_, _, _, PySem.W.mg_of X G aC_Reader, ⟨mk_Reader, a_Reader___init__, i_Reader___init__, kc_Reader⟩, fun_mk (st := s_Reader___init__) l_Reader___init__ cc_Reader___init__ k_Reader___init__⟩
  have D_Reader_take : DefM K mg "Reader" "take" "Reader.take" s_Reader_take := ⟨_, _, _, PySem.W.mg_of X G aC_Reader, cl_Reader, ⟨a_Reader_take, i_Reader_take, k_Reader_take⟩, fun_mk (st := s_Reader_take) l_Reader_take cc_Reader_take k_Reader_take⟩
  have D_Reader_feed : DefM K mg "Reader" "feed" "Reader.feed" s_Reader_feed := ⟨_, _, _, PySem.W.mg_of X G aC_Reader, cl_Reader, ⟨a_Reader_feed, i_Reader_feed, k_Reader_feed⟩, fun_mk (st := s_Reader_feed) l_Reader_feed cc_Reader_feed k_Reader_feed⟩
  have D_Reader_finish : DefM K mg "Reader" "finish" "Reader.finish" s_Reader_finish := ⟨_, _, _, PySem.W.mg_of X G aC_Reader, cl_Reader, ⟨a_Reader_finish, i_Reader_finish, k_Reader_finish⟩, fun_mk (st := s_Reader_finish) l_Reader_finish cc_Reader_finish k_Reader_finish⟩
  have D_items_of : Def K mg "items_of" s_items_of := ⟨_, _, PySem.W.mg_of X G a_items_of, fun_mk (st := s_items_of) l_items_of cc_items_of k_items_of⟩
  have D_pair_behind : Def K mg "pair_behind" s_pair_behind := ⟨_, _, PySem.W.mg_of X G a_pair_behind, fun_mk (st := s_pair_behind) l_pair_behind cc_pair_behind k_pair_behind⟩
  have D_is_whole : Def K mg "is_whole" s_is_whole := ⟨_, _, PySem.W.mg_of X G a_is_whole, fun_mk (st := s_is_whole) l_is_whole cc_is_whole k_is_whole⟩
  have D_is_within : Def K mg "is_within" s_is_within := ⟨_, _, PySem.W.mg_of X G a_is_within, fun_mk (st := s_is_within) l_is_within cc_is_within k_is_within⟩
  have D_Maker_begin_row : DefM K mg "Maker" "begin_row" "Maker.begin_row" s_Maker_begin_row := ⟨_, _, _, PySem.W.mg_of X G aC_Maker, cl_Maker, ⟨a_Maker_begin_row, i_Maker_begin_row, k_Maker_begin_row⟩, fun_mk (st := s_Maker_begin_row) l_Maker_begin_row cc_Maker_begin_row k_Maker_begin_row⟩
  have D_Maker___init__ : DefC K mg "Maker" "Maker.__init__" s_Maker___init__ := ⟨_, _, _, PySem.W.mg_of X G aC_Maker, ⟨mk_Maker, a_Maker___init__, i_Maker___init__, kc_Maker⟩, fun_mk (st := s_Maker___init__) l_Maker___init__ cc_Maker___init__ k_Maker___init__⟩
  have D_Maker_tell : DefM K mg "Maker" "tell" "Maker.tell" s_Maker_tell := ⟨_, _, _, PySem.W.mg_of X G aC_Maker, cl_Maker, ⟨a_Maker_tell, i_Maker_tell, k_Maker_tell⟩, fun_mk (st := s_Maker_tell) l_Maker_tell cc_Maker_tell k_Maker_tell⟩
  have D_Maker_empty_stale : DefM K mg "Maker" "empty_stale" "Maker.empty_stale" s_Maker_empty_stale := ⟨_, _, _, PySem.W.mg_of X G aC_Maker, cl_Maker, ⟨a_Maker_empty_stale, i_Maker_empty_stale, k_Maker_empty_stale⟩, fun_mk (st := s_Maker_empty_stale) l_Maker_empty_stale cc_Maker_empty_stale k_Maker_empty_stale⟩
  have D_Maker_add_letter : DefM K mg "Maker" "add_letter" "Maker.add_letter" s_Maker_add_letter := ⟨_, _, _, PySem.W.mg_of X G aC_Maker, cl_Maker, ⟨a_Maker_add_letter, i_Maker_add_letter, k_Maker_add_letter⟩, fun_mk (st := s_Maker_add_letter) l_Maker_add_letter cc_Maker_add_letter k_Maker_add_letter⟩
  have D_Maker_put : DefM K mg "Maker" "put" "Maker.put" s_Maker_put := ⟨_, _, _, PySem.W.mg_of X G aC_Maker, cl_Maker, ⟨a_Maker_put, i_Maker_put, k_Maker_put⟩, fun_mk (st := s_Maker_put) l_Maker_put cc_Maker_put k_Maker_put⟩
  have D_Maker_open_letters : DefM K mg "Maker" "open_letters" "Maker.open_letters" s_Maker_open_letters := ⟨_, _, _, PySem.W.mg_of X G aC_Maker, cl_Maker, ⟨a_Maker_open_letters, i_Maker_open_letters, k_Maker_open_letters⟩, fun_mk (st := s_Maker_open_letters) l_Maker_open_letters cc_Maker_open_letters k_Maker_open_letters⟩
  have D_rows_of : Def K mg "rows_of" s_rows_of := ⟨_, _, PySem.W.mg_of X G a_rows_of, fun_mk (st := s_rows_of) l_rows_of cc_rows_of k_rows_of⟩
  have D_law_cell : Def K mg "_law_cell" s_law_cell := ⟨_, _, PySem.W.mg_of X G a_law_cell, fun_mk (st := s_law_cell) l_law_cell cc_law_cell k_law_cell⟩
  have D_law_mix : Def K mg "_law_mix" s_law_mix := ⟨_, _, PySem.W.mg_of X G a_law_mix, fun_mk (st := s_law_mix) l_law_mix cc_law_mix k_law_mix⟩
  have D_law_item : Def K mg "_law_item" s_law_item := ⟨_, _, PySem.W.mg_of X G a_law_item, fun_mk (st := s_law_item) l_law_item cc_law_item k_law_item⟩
  have D_law_items : Def K mg "_law_items" s_law_items := ⟨_, _, PySem.W.mg_of X G a_law_items, fun_mk (st := s_law_items) l_law_items cc_law_items k_law_items⟩
  have D_law_parts : Def K mg "_law_parts" s_law_parts := ⟨_, _, PySem.W.mg_of X G a_law_parts, fun_mk (st := s_law_parts) l_law_parts cc_law_parts k_law_parts⟩
  have D_law_whole : Def K mg "_law_whole" s_law_whole := ⟨_, _, PySem.W.mg_of X G a_law_whole, fun_mk (st := s_law_whole) l_law_whole cc_law_whole k_law_whole⟩
  have D_law_letters_right : Def K mg "_law_letters_right" s_law_letters_right := ⟨_, _, PySem.W.mg_of X G a_law_letters_right, fun_mk (st := s_law_letters_right) l_law_letters_right cc_law_letters_right k_law_letters_right⟩
  have D_law_parts_right : Def K mg "_law_parts_right" s_law_parts_right := ⟨_, _, PySem.W.mg_of X G a_law_parts_right, fun_mk (st := s_law_parts_right) l_law_parts_right cc_law_parts_right k_law_parts_right⟩
  have D_law_piece : Def K mg "_law_piece" s_law_piece := ⟨_, _, PySem.W.mg_of X G a_law_piece, fun_mk (st := s_law_piece) l_law_piece cc_law_piece k_law_piece⟩
  have D_law_joined : Def K mg "_law_joined" s_law_joined := ⟨_, _, PySem.W.mg_of X G a_law_joined, fun_mk (st := s_law_joined) l_law_joined cc_law_joined k_law_joined⟩
  have D_law : Def K mg "law" s_law := ⟨_, _, PySem.W.mg_of X G a_law, fun_mk (st := s_law) l_law cc_law k_law⟩
  have B : Blt mg := ⟨PySem.W.mg_none_of X G z_len, PySem.W.mg_none_of X G z_isinstance, PySem.W.mg_none_of X G z_all, PySem.W.mg_none_of X G z_sum, PySem.W.mg_none_of X G z_max, PySem.W.mg_none_of X G z_min, PySem.W.mg_none_of X G z_int, PySem.W.mg_none_of X G z_str, PySem.W.mg_none_of X G z_bool, PySem.W.mg_none_of X G z_list, PySem.W.mg_none_of X G z_tuple, PySem.W.mg_none_of X G z_dict, PySem.W.mg_none_of X G z_range, PySem.W.mg_none_of X G z_enumerate, PySem.W.mg_none_of X G z_zip⟩
  have c_ANEW_SIGN : ∃ u, mg "ANEW_SIGN" = some u ∧ RelV (.str (S [9])) u := ⟨_, PySem.W.mg_of X G a_c_ANEW_SIGN, r_ANEW_SIGN⟩
  have c_COLOURS : ∃ u, mg "COLOURS" = some u ∧ RelV (.str (S [97, 98, 99, 100, 101, 102, 103, 104, 46])) u := ⟨_, PySem.W.mg_of X G a_c_COLOURS, r_COLOURS⟩
  have c_FIRST_SIGN : ∃ u, mg "FIRST_SIGN" = some u ∧ RelV (.str (S [32])) u := ⟨_, PySem.W.mg_of X G a_c_FIRST_SIGN, r_FIRST_SIGN⟩
  have c_GREATEST_MOST : ∃ u, mg "GREATEST_MOST" = some u ∧ RelV (.int 200) u := ⟨_, PySem.W.mg_of X G a_c_GREATEST_MOST, r_GREATEST_MOST⟩
  have c_LAST_SIGN : ∃ u, mg "LAST_SIGN" = some u ∧ RelV (.str (S [125])) u := ⟨_, PySem.W.mg_of X G a_c_LAST_SIGN, r_LAST_SIGN⟩
  have c_PLAIN : CTup K mg "PLAIN" [[46], [46]] := ⟨ad_PLAIN, _, it_PLAIN, nn_PLAIN, PySem.W.mg_of X G a_c_PLAIN, l_c_PLAIN, t_c_PLAIN, rfl, z_c_PLAIN, v_c_PLAIN⟩
  have c_ROW_END : ∃ u, mg "ROW_END" = some u ∧ RelV (.str (S [10])) u := ⟨_, PySem.W.mg_of X G a_c_ROW_END, r_ROW_END⟩
  refine ⟨PySem.W.fnOf "law" "law" (defArgs s_law) (defBody s_law) (defScope s_law) .none kV_law dc_law pm_law an_law cd_law ct_law, fun s v => .of_eq rfl, fun base _ _ => ?_⟩
  have C_is_sign : Can l.prog w K mg base "is_sign" ["thing"] 1 (vSp K mg [.s] (rV K) c_is_sign) := (ok_is_sign D_is_sign B c_FIRST_SIGN c_LAST_SIGN)
  have C_is_colour : Can l.prog w K mg base "is_colour" ["thing"] 1 (vSp K mg [.s] (rV K) c_is_colour) := (ok_is_colour D_is_colour B c_COLOURS)
  have C_checked : Can l.prog w K mg base "checked" ["text"] 2 (vSp K mg [.s] (rV K) c_checked) := (ok_checked D_checked B c_ANEW_SIGN c_ROW_END C_is_sign)
  have C_mark_of : Can l.prog w K mg base "mark_of" ["text"] 2 (vSp K mg [.s] (rV K) c_mark_of) := (ok_mark_of D_mark_of B C_is_colour)
  have C_may_become_mark : Can l.prog w K mg base "may_become_mark" ["text"] 2 (vSp K mg [.s] (rV K) c_may_become_mark) := (ok_may_become_mark D_may_become_mark B C_is_colour)
  have C_own_item : Can l.prog w K mg base "own_item" ["place", "sign"] 1 (vSp K mg [.s, .s] (rV K) c_own_item) := (ok_own_item D_own_item B c_ANEW_SIGN c_ROW_END)
  have C_own_items : Can l.prog w K mg base "own_items" ["place", "signs"] 2 (vSp K mg [.s, .s] (rO K) c_own_items) := (ok_own_items D_own_items B C_own_item)
  have C_Reader___init__ : CanC l.prog w K mg base "Reader" ["self"] 1 (vSp K mg [.v] (rV K) c_Reader___init__) := (ok_Reader___init__ D_Reader___init__ B K_Reader_held K_Reader_place)
  have C_Reader_take : CanM l.prog w K mg base "Reader" "take" ["self", "sign"] 3 (vSp K mg [.v, .s] (rO K) c_Reader_take) := (ok_Reader_take D_Reader_take B K_Reader_place K_Reader_held C_may_become_mark C_mark_of C_own_items)
  have C_Reader_feed : CanM l.prog w K mg base "Reader" "feed" ["self", "piece"] 4 (vSp K mg [.v, .s] (rO K) c_Reader_feed) := (ok_Reader_feed D_Reader_feed B C_checked C_Reader_take)
  have C_Reader_finish : CanM l.prog w K mg base "Reader" "finish" ["self"] 3 (vSp K mg [.v] (rV K) c_Reader_finish) := (ok_Reader_finish D_Reader_finish B K_Reader_held K_Reader_place C_own_items)
  have C_items_of : Can l.prog w K mg base "items_of" ["text"] 5 (vSp K mg [.s] (rO K) c_items_of) := (ok_items_of D_items_of B C_Reader___init__ C_Reader_feed C_Reader_finish)
  have C_pair_behind : Can l.prog w K mg base "pair_behind" ["pair", "kind", "value"] 1 (vSp K mg [.s, .s, .s] (rV K) c_pair_behind) := (ok_pair_behind D_pair_behind B c_PLAIN)
  have C_is_whole : Can l.prog w K mg base "is_whole" ["thing"] 1 (vSp K mg [.s] (rV K) c_is_whole) := (ok_is_whole D_is_whole B )
  have C_is_within : Can l.prog w K mg base "is_within" ["thing", "least", "greatest"] 2 (vSp K mg [.s, .s, .s] (rV K) c_is_within) := (ok_is_within D_is_within B C_is_whole)
  have C_Maker_begin_row : CanM l.prog w K mg base "Maker" "begin_row" ["self"] 1 (vSp K mg [.v] (rV K) c_Maker_begin_row) := (ok_Maker_begin_row D_Maker_begin_row B c_PLAIN K_Maker_letters K_Maker_pair K_Maker_stale)
  have C_Maker___init__ : CanC l.prog w K mg base "Maker" ["self", "most"] 3 (vSp K mg [.v, .s] (rV K) c_Maker___init__) := (ok_Maker___init__ D_Maker___init__ B c_GREATEST_MOST K_Maker_most K_Maker_last_word C_is_within C_Maker_begin_row)
  have C_Maker_tell : CanM l.prog w K mg base "Maker" "tell" ["self", "word"] 1 (vSp K mg [.v, .s] (rO K) c_Maker_tell) := (ok_Maker_tell D_Maker_tell B K_Maker_letters K_Maker_last_word)
  have C_Maker_empty_stale : CanM l.prog w K mg base "Maker" "empty_stale" ["self"] 1 (vSp K mg [.v] (rV K) c_Maker_empty_stale) := (ok_Maker_empty_stale D_Maker_empty_stale B K_Maker_stale K_Maker_letters)
  have C_Maker_add_letter : CanM l.prog w K mg base "Maker" "add_letter" ["self", "item"] 2 (vSp K mg [.v, .s] (rO K) c_Maker_add_letter) := (ok_Maker_add_letter D_Maker_add_letter B K_Maker_most K_Maker_letters K_Maker_pair C_Maker_tell)
  have C_Maker_put : CanM l.prog w K mg base "Maker" "put" ["self", "item"] 3 (vSp K mg [.v, .s] (rO K) c_Maker_put) := (ok_Maker_put D_Maker_put B K_Maker_pair K_Maker_stale C_Maker_tell C_Maker_empty_stale C_Maker_add_letter C_pair_behind)
  have C_Maker_open_letters : CanM l.prog w K mg base "Maker" "open_letters" ["self"] 1 (vSp K mg [.v] (rO K) c_Maker_open_letters) := (ok_Maker_open_letters D_Maker_open_letters B K_Maker_letters)
  have C_rows_of : Can l.prog w K mg base "rows_of" ["text", "most"] 6 (vSp K mg [.s, .s] (rV K) c_rows_of) := (ok_rows_of D_rows_of B C_Maker___init__ C_items_of C_Maker_put C_Maker_open_letters)
  have C_law_cell : Can l.prog w K mg base "_law_cell" ["_law_script", "_law_k"] 1 (vSp K mg [.s, .s] (rV K) c_law_cell) := (ok_law_cell D_law_cell B )
  have C_law_mix : Can l.prog w K mg base "_law_mix" ["_law_cell_here", "_law_k"] 1 (vSp K mg [.s, .s] (rV K) c_law_mix) := (ok_law_mix D_law_mix B )
  have C_law_item : Can l.prog w K mg base "_law_item" ["_law_text", "_law_at"] 1 (vSp K mg [.s, .s] (rV K) c_law_item) := (ok_law_item D_law_item B )
  have C_law_items : Can l.prog w K mg base "_law_items" ["_law_text"] 2 (vSp K mg [.s] (rO K) c_law_items) := (ok_law_items D_law_items B C_law_item)
  have C_law_parts : Can l.prog w K mg base "_law_parts" ["_law_items_here", "_law_most"] 1 (vSp K mg [.s, .s] (rV K) c_law_parts) := (ok_law_parts D_law_parts B )
  have C_law_whole : Can l.prog w K mg base "_law_whole" ["_law_found"] 1 (vSp K mg [.s] (rV K) c_law_whole) := (ok_law_whole D_law_whole B )
  have C_law_letters_right : Can l.prog w K mg base "_law_letters_right" ["_law_found", "_law_due"] 2 (vSp K mg [.s, .s] (rV K) c_law_letters_right) := (ok_law_letters_right D_law_letters_right B C_law_whole)
  have C_law_parts_right : Can l.prog w K mg base "_law_parts_right" ["_law_found", "_law_due"] 3 (vSp K mg [.s, .s] (rV K) c_law_parts_right) := (ok_law_parts_right D_law_parts_right B C_law_letters_right)
  have C_law_piece : Can l.prog w K mg base "_law_piece" ["_law_cell_here", "_law_anew"] 2 (vSp K mg [.s, .s] (rV K) c_law_piece) := (ok_law_piece D_law_piece B C_law_mix)
  have C_law_joined : Can l.prog w K mg base "_law_joined" ["_law_parts_here", "_law_row"] 1 (vSp K mg [.s, .s] (rO K) c_law_joined) := (ok_law_joined D_law_joined B )
  have C_law : Can l.prog w K mg base "law" ["_law_script"] 7 (vSp K mg [.s] (rV K) c_law) := (ok_law D_law B C_law_cell C_law_mix C_law_piece C_law_parts C_law_items C_rows_of C_law_parts_right C_law_letters_right C_law_joined)
  obtain ⟨f', fd', hm', hk', hb', F', oc', od', osl', lk'⟩ := C_law
  have e2 := (PySem.W.mg_of X G a_law).symm.trans hm'
  cases e2
  have e3 := l_law.symm.trans lk'
  cases e3
  exact F'.imp (law_spV law_true)
theorem walk {l : PySem.W.OpenLaw} {q : Program} {loose : List Str} {XP : (Str → Option Value) → Heap → Prop} {YP : World → Heap → Prop} {d : DefRec} {K : Params → PySem.W.Frag} (hn : l.most = some 63) (hdf : d.params.defaults = [])
    (hY : ∀ (w : World) (h : Heap), YP w h → (K w.params).In h)
    (F : ∀ (w : World) (mg : Str → Option Value) (fa : Addr) (h : Heap), (K w.params).In h → h.Ns mainGlobals mg → mg d.name = some (.ref fa) →
      ∃ fd : FuncData, (∀ (s : Shared) (u : Value), BindsTo s fd ⟨[u], []⟩ [("_law_script", u)]) ∧ ∀ base : Heap, (K w.params).In base → base.Ns mainGlobals mg → FnOk l.prog w (K w.params) mg base CX0 7 fa fd ["_law_script"] (sp_law (K w.params))) :
    PySem.W.WalkO q loose XP YP l.row.toRowW d [] (fun f vs => PySem.call f vs) :=
  L2.walk_ofR (n := 63) (k := 7) (x := "_law_script") (CX := fun _ => CX0) (sp := fun w => sp_law (K w.params)) hn (by decide) hdf ⟨rfl, by decide, by decide⟩ hY F (fun _ _ a ns hl ho hS => ⟨a, ns, rfl, hS, hl, ho, fun _ => rfl⟩) fun _ _ _ _ _ z => z
end K24
open PySem PySem.W PyProof.Rows
set_option maxRecDepth 100000 in
set_option maxHeartbeats 0 in
theorem PySem.Challenge.cw_outweave_k24_full_parts_holds : PySem.Challenge.rw_outweave_k24_full_parts.Holds := by
  w_on; o_law; k_head; (case hw => w_witness2)
  k_fill
  refine K24.walk (l := PySem.Challenge.rw_outweave_k24_full_parts) rfl rfl (fun w h Y => PySem.W.kIn_of Y) ?F
  case F =>
    intro w mg fa h KX G hmg
    refine' K24.all_mk KX G hmg ?aC_Reader ?pg_Reader ?hd_Reader ?po_Reader ?sa_Reader ?mk_Reader ?kc_Reader ?n_held_Reader ?n_place_Reader ?aC_Maker ?pg_Maker ?hd_Maker ?po_Maker ?sa_Maker ?mk_Maker ?kc_Maker ?n_last_word_Maker ?n_letters_Maker ?n_most_Maker ?n_pair_Maker ?n_stale_Maker ?a_is_sign ?l_is_sign ?cc_is_sign ?k_is_sign ?a_is_colour ?l_is_colour ?cc_is_colour ?k_is_colour ?a_checked ?l_checked ?cc_checked ?k_checked ?a_mark_of ?l_mark_of ?cc_mark_of ?k_mark_of ?a_may_become_mark ?l_may_become_mark ?cc_may_become_mark ?k_may_become_mark ?a_own_item ?l_own_item ?cc_own_item ?k_own_item ?a_own_items ?l_own_items ?cc_own_items ?k_own_items ?a_Reader___init__ ?i_Reader___init__ ?l_Reader___init__ ?cc_Reader___init__ ?k_Reader___init__ ?a_Reader_take ?i_Reader_take ?l_Reader_take ?cc_Reader_take ?k_Reader_take ?a_Reader_feed ?i_Reader_feed ?l_Reader_feed ?cc_Reader_feed ?k_Reader_feed ?a_Reader_finish ?i_Reader_finish ?l_Reader_finish ?cc_Reader_finish ?k_Reader_finish ?a_items_of ?l_items_of ?cc_items_of ?k_items_of ?a_pair_behind ?l_pair_behind ?cc_pair_behind ?k_pair_behind ?a_is_whole ?l_is_whole ?cc_is_whole ?k_is_whole ?a_is_within ?l_is_within ?cc_is_within ?k_is_within ?a_Maker_begin_row ?i_Maker_begin_row ?l_Maker_begin_row ?cc_Maker_begin_row ?k_Maker_begin_row ?a_Maker___init__ ?i_Maker___init__ ?l_Maker___init__ ?cc_Maker___init__ ?k_Maker___init__ ?a_Maker_tell ?i_Maker_tell ?l_Maker_tell ?cc_Maker_tell ?k_Maker_tell ?a_Maker_empty_stale ?i_Maker_empty_stale ?l_Maker_empty_stale ?cc_Maker_empty_stale ?k_Maker_empty_stale ?a_Maker_add_letter ?i_Maker_add_letter ?l_Maker_add_letter ?cc_Maker_add_letter ?k_Maker_add_letter ?a_Maker_put ?i_Maker_put ?l_Maker_put ?cc_Maker_put ?k_Maker_put ?a_Maker_open_letters ?i_Maker_open_letters ?l_Maker_open_letters ?cc_Maker_open_letters ?k_Maker_open_letters ?a_rows_of ?l_rows_of ?cc_rows_of ?k_rows_of ?a_law_cell ?l_law_cell ?cc_law_cell ?k_law_cell ?a_law_mix ?l_law_mix ?cc_law_mix ?k_law_mix ?a_law_item ?l_law_item ?cc_law_item ?k_law_item ?a_law_items ?l_law_items ?cc_law_items ?k_law_items ?a_law_parts ?l_law_parts ?cc_law_parts ?k_law_parts ?a_law_whole ?l_law_whole ?cc_law_whole ?k_law_whole ?a_law_letters_right ?l_law_letters_right ?cc_law_letters_right ?k_law_letters_right ?a_law_parts_right ?l_law_parts_right ?cc_law_parts_right ?k_law_parts_right ?a_law_piece ?l_law_piece ?cc_law_piece ?k_law_piece ?a_law_joined ?l_law_joined ?cc_law_joined ?k_law_joined ?a_law ?l_law ?cc_law ?k_law ?z_len ?z_isinstance ?z_all ?z_sum ?z_max ?z_min ?z_int ?z_str ?z_bool ?z_list ?z_tuple ?z_dict ?z_range ?z_enumerate ?z_zip ?a_c_ANEW_SIGN ?r_ANEW_SIGN ?a_c_COLOURS ?r_COLOURS ?a_c_FIRST_SIGN ?r_FIRST_SIGN ?a_c_GREATEST_MOST ?r_GREATEST_MOST ?a_c_LAST_SIGN ?r_LAST_SIGN ?a_c_PLAIN ?l_c_PLAIN ?t_c_PLAIN ?z_c_PLAIN ?v_c_PLAIN ?a_c_ROW_END ?r_ROW_END
    (case aC_Reader => k_is)
    (case pg_Reader => k_is)
    (case hd_Reader => k_is)
    (case po_Reader => k_is)
    (case sa_Reader => k_is)
    (case mk_Reader => k_is)
    (case kc_Reader => k_is)
    (case n_held_Reader => k_is)
    (case n_place_Reader => k_is)
    (case aC_Maker => k_is)
    (case pg_Maker => k_is)
    (case hd_Maker => k_is)
    (case po_Maker => k_is)
    (case sa_Maker => k_is)
    (case mk_Maker => k_is)
    (case kc_Maker => k_is)
    (case n_last_word_Maker => k_is)
    (case n_letters_Maker => k_is)
    (case n_most_Maker => k_is)
    (case n_pair_Maker => k_is)
    (case n_stale_Maker => k_is)
    (case a_is_sign => k_is)
    (case l_is_sign => k_is)
    (case cc_is_sign => k_is)
    (case k_is_sign => k_is)
    (case a_is_colour => k_is)
    (case l_is_colour => k_is)
    (case cc_is_colour => k_is)
    (case k_is_colour => k_is)
    (case a_checked => k_is)
    (case l_checked => k_is)
    (case cc_checked => k_is)
    (case k_checked => k_is)
    (case a_mark_of => k_is)
    (case l_mark_of => k_is)
    (case cc_mark_of => k_is)
    (case k_mark_of => k_is)
    (case a_may_become_mark => k_is)
    (case l_may_become_mark => k_is)
    (case cc_may_become_mark => k_is)
    (case k_may_become_mark => k_is)
    (case a_own_item => k_is)
    (case l_own_item => k_is)
    (case cc_own_item => k_is)
    (case k_own_item => k_is)
    (case a_own_items => k_is)
    (case l_own_items => k_is)
    (case cc_own_items => k_is)
    (case k_own_items => k_is)
    (case a_Reader___init__ => k_is)
    (case i_Reader___init__ => k_is)
    (case l_Reader___init__ => k_is)
    (case cc_Reader___init__ => k_is)
    (case k_Reader___init__ => k_is)
    (case a_Reader_take => k_is)
    (case i_Reader_take => k_is)
    (case l_Reader_take => k_is)
    (case cc_Reader_take => k_is)
    (case k_Reader_take => k_is)
    (case a_Reader_feed => k_is)
    (case i_Reader_feed => k_is)
    (case l_Reader_feed => k_is)
    (case cc_Reader_feed => k_is)
    (case k_Reader_feed => k_is)
    (case a_Reader_finish => k_is)
    (case i_Reader_finish => k_is)
    (case l_Reader_finish => k_is)
    (case cc_Reader_finish => k_is)
    (case k_Reader_finish => k_is)
    (case a_items_of => k_is)
    (case l_items_of => k_is)
    (case cc_items_of => k_is)
    (case k_items_of => k_is)
    (case a_pair_behind => k_is)
    (case l_pair_behind => k_is)
    (case cc_pair_behind => k_is)
    (case k_pair_behind => k_is)
    (case a_is_whole => k_is)
    (case l_is_whole => k_is)
    (case cc_is_whole => k_is)
    (case k_is_whole => k_is)
    (case a_is_within => k_is)
    (case l_is_within => k_is)
    (case cc_is_within => k_is)
    (case k_is_within => k_is)
    (case a_Maker_begin_row => k_is)
    (case i_Maker_begin_row => k_is)
    (case l_Maker_begin_row => k_is)
    (case cc_Maker_begin_row => k_is)
    (case k_Maker_begin_row => k_is)
    (case a_Maker___init__ => k_is)
    (case i_Maker___init__ => k_is)
    (case l_Maker___init__ => k_is)
    (case cc_Maker___init__ => k_is)
    (case k_Maker___init__ => k_is)
    (case a_Maker_tell => k_is)
    (case i_Maker_tell => k_is)
    (case l_Maker_tell => k_is)
    (case cc_Maker_tell => k_is)
    (case k_Maker_tell => k_is)
    (case a_Maker_empty_stale => k_is)
    (case i_Maker_empty_stale => k_is)
    (case l_Maker_empty_stale => k_is)
    (case cc_Maker_empty_stale => k_is)
    (case k_Maker_empty_stale => k_is)
    (case a_Maker_add_letter => k_is)
    (case i_Maker_add_letter => k_is)
    (case l_Maker_add_letter => k_is)
    (case cc_Maker_add_letter => k_is)
    (case k_Maker_add_letter => k_is)
    (case a_Maker_put => k_is)
    (case i_Maker_put => k_is)
    (case l_Maker_put => k_is)
    (case cc_Maker_put => k_is)
    (case k_Maker_put => k_is)
    (case a_Maker_open_letters => k_is)
    (case i_Maker_open_letters => k_is)
    (case l_Maker_open_letters => k_is)
    (case cc_Maker_open_letters => k_is)
    (case k_Maker_open_letters => k_is)
    (case a_rows_of => k_is)
    (case l_rows_of => k_is)
    (case cc_rows_of => k_is)
    (case k_rows_of => k_is)
    (case a_law_cell => k_is)
    (case l_law_cell => k_is)
    (case cc_law_cell => k_is)
    (case k_law_cell => k_is)
    (case a_law_mix => k_is)
    (case l_law_mix => k_is)
    (case cc_law_mix => k_is)
    (case k_law_mix => k_is)
    (case a_law_item => k_is)
    (case l_law_item => k_is)
    (case cc_law_item => k_is)
    (case k_law_item => k_is)
    (case a_law_items => k_is)
    (case l_law_items => k_is)
    (case cc_law_items => k_is)
    (case k_law_items => k_is)
    (case a_law_parts => k_is)
    (case l_law_parts => k_is)
    (case cc_law_parts => k_is)
    (case k_law_parts => k_is)
    (case a_law_whole => k_is)
    (case l_law_whole => k_is)
    (case cc_law_whole => k_is)
    (case k_law_whole => k_is)
    (case a_law_letters_right => k_is)
    (case l_law_letters_right => k_is)
    (case cc_law_letters_right => k_is)
    (case k_law_letters_right => k_is)
    (case a_law_parts_right => k_is)
    (case l_law_parts_right => k_is)
    (case cc_law_parts_right => k_is)
    (case k_law_parts_right => k_is)
    (case a_law_piece => k_is)
    (case l_law_piece => k_is)
    (case cc_law_piece => k_is)
    (case k_law_piece => k_is)
    (case a_law_joined => k_is)
    (case l_law_joined => k_is)
    (case cc_law_joined => k_is)
    (case k_law_joined => k_is)
    (case a_law => k_is)
    (case l_law => k_is)
    (case cc_law => k_is)
    (case k_law => k_is)
    (case z_len => k_is)
    (case z_isinstance => k_is)
    (case z_all => k_is)
    (case z_sum => k_is)
    (case z_max => k_is)
    (case z_min => k_is)
    (case z_int => k_is)
    (case z_str => k_is)
    (case z_bool => k_is)
    (case z_list => k_is)
    (case z_tuple => k_is)
    (case z_dict => k_is)
    (case z_range => k_is)
    (case z_enumerate => k_is)
    (case z_zip => k_is)
    (case a_c_ANEW_SIGN => k_is)
    (case r_ANEW_SIGN => exact ⟨_, rfl⟩)
    (case a_c_COLOURS => k_is)
    (case r_COLOURS => exact ⟨_, rfl⟩)
    (case a_c_FIRST_SIGN => k_is)
    (case r_FIRST_SIGN => exact ⟨_, rfl⟩)
    (case a_c_GREATEST_MOST => k_is)
    (case r_GREATEST_MOST => exact ⟨_, rfl⟩)
    (case a_c_LAST_SIGN => k_is)
    (case r_LAST_SIGN => exact ⟨_, rfl⟩)
    (case a_c_PLAIN => k_is)
    (case l_c_PLAIN => k_is)
    (case t_c_PLAIN => rfl)
    (case z_c_PLAIN => decide +kernel)
    (case v_c_PLAIN => repeat (first | exact .nil | refine .cons ⟨_, rfl⟩ ?_))
    (case a_c_ROW_END => k_is)
    (case r_ROW_END => exact ⟨_, rfl⟩)
